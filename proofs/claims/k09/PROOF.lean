import PyProof.Rows.All
import Wide.All
import OpenK.AllK
import Wide.FinOn
import HandS.ForMost
import HandS.Flow
import HandS.Defaults
import HandS.Style
import HandS.IsInst
import HandS.StrMore
import HandS.ReplaceList
import HandS.Deep
import HandS.Conv
import HandS.More
import HandS.TupLe
import HandS.Replace
import PyProof.StrBlock2
import PyProof.ToksMono
import PySem.Challenge.RW_promptyard_k09_errors_compared
set_option Elab.async false
set_option linter.all false
set_option maxRecDepth 100000
namespace Pq
open PySem L2 TL PyProof.Rows
def top (i : Nat) : Stmt := PySem.Challenge.pw_promptyard_k09_errors_compared.main.body.getD i (.Pass ⟨0, 0, 0, 0⟩)
-- def is_flag at top 11
abbrev s_is_flag : Stmt := top 11
theorem sc_is_flag : FnScope ["thing"] ["thing"] (defScope s_is_flag) := ⟨rfl, rfl, rfl, by decide +kernel, rfl, by decide +kernel, by decide +kernel⟩
-- cells []
-- def require_flags at top 12
abbrev s_require_flags : Stmt := top 12
theorem sc_require_flags : FnScope ["flags", "thing"] ["flags"] (defScope s_require_flags) := ⟨rfl, rfl, rfl, by decide +kernel, rfl, by decide +kernel, by decide +kernel⟩
-- cells []
-- def is_blank at top 18
abbrev s_is_blank : Stmt := top 18
theorem sc_is_blank : FnScope ["line"] ["line"] (defScope s_is_blank) := ⟨rfl, rfl, rfl, by decide +kernel, rfl, by decide +kernel, by decide +kernel⟩
-- cells []
-- def is_mark at top 19
abbrev s_is_mark : Stmt := top 19
theorem sc_is_mark : FnScope ["line"] ["line"] (defScope s_is_mark) := ⟨rfl, rfl, rfl, by decide +kernel, rfl, by decide +kernel, by decide +kernel⟩
-- cells []
-- def marks_emptied at top 20
abbrev s_marks_emptied : Stmt := top 20
theorem sc_marks_emptied : FnScope ["want", "line"] ["want"] (defScope s_marks_emptied) := ⟨rfl, rfl, rfl, by decide +kernel, rfl, by decide +kernel, by decide +kernel⟩
-- cells []
-- def blanks_emptied at top 21
abbrev s_blanks_emptied : Stmt := top 21
theorem sc_blanks_emptied : FnScope ["got", "line"] ["got"] (defScope s_blanks_emptied) := ⟨rfl, rfl, rfl, by decide +kernel, rfl, by decide +kernel, by decide +kernel⟩
-- cells []
-- def words_of at top 22
abbrev s_words_of : Stmt := top 22
theorem sc_words_of : FnScope ["text", "spaced", "word"] ["text"] (defScope s_words_of) := ⟨rfl, rfl, rfl, by decide +kernel, rfl, by decide +kernel, by decide +kernel⟩
-- cells []
-- def words_joined at top 23
abbrev s_words_joined : Stmt := top 23
theorem sc_words_joined : FnScope ["text"] ["text"] (defScope s_words_joined) := ⟨rfl, rfl, rfl, by decide +kernel, rfl, by decide +kernel, by decide +kernel⟩
-- cells []
-- def has_pieces at top 24
abbrev s_has_pieces : Stmt := top 24
theorem sc_has_pieces : FnScope ["pieces", "got", "at", "end", "piece"] ["pieces", "got"] (defScope s_has_pieces) := ⟨rfl, rfl, rfl, by decide +kernel, rfl, by decide +kernel, by decide +kernel⟩
-- cells []
-- def lets_by at top 26
abbrev s_lets_by : Stmt := top 26
theorem sc_lets_by : FnScope ["want", "got", "flags"] ["want", "got", "flags"] (defScope s_lets_by) := ⟨rfl, rfl, rfl, by decide +kernel, rfl, by decide +kernel, by decide +kernel⟩
-- cells []
-- def check_error at top 27
abbrev s_check_error : Stmt := top 27
theorem sc_check_error : FnScope ["want", "got", "flags"] ["want", "got", "flags"] (defScope s_check_error) := ⟨rfl, rfl, rfl, by decide +kernel, rfl, by decide +kernel, by decide +kernel⟩
-- cells []
-- def error_lets_by at top 28
abbrev s_error_lets_by : Stmt := top 28
theorem sc_error_lets_by : FnScope ["want", "got", "flags"] ["want", "got", "flags"] (defScope s_error_lets_by) := ⟨rfl, rfl, rfl, by decide +kernel, rfl, by decide +kernel, by decide +kernel⟩
-- cells []
-- def detail_free at top 29
abbrev s_detail_free : Stmt := top 29
theorem sc_detail_free : FnScope ["text", "name"] ["text"] (defScope s_detail_free) := ⟨rfl, rfl, rfl, by decide +kernel, rfl, by decide +kernel, by decide +kernel⟩
-- cells []
-- def _law_draws at top 31
abbrev s_law_draws : Stmt := top 31
theorem sc_law_draws : FnScope ["script", "item"] ["script"] (defScope s_law_draws) := ⟨rfl, rfl, rfl, by decide +kernel, rfl, by decide +kernel, by decide +kernel⟩
-- cells []
-- def _law_mixed at top 32
abbrev s_law_mixed : Stmt := top 32
theorem sc_law_mixed : FnScope ["seed", "k", "first"] ["seed", "k"] (defScope s_law_mixed) := ⟨rfl, rfl, rfl, by decide +kernel, rfl, by decide +kernel, by decide +kernel⟩
-- cells []
-- def _law_take at top 33
abbrev s_law_take : Stmt := top 33
theorem sc_law_take : FnScope ["draws", "size", "found", "seed", "reach"] ["draws", "size"] (defScope s_law_take) := ⟨rfl, rfl, rfl, by decide +kernel, rfl, by decide +kernel, by decide +kernel⟩
-- cells []
-- def _law_same at top 34
abbrev s_law_same : Stmt := top 34
theorem sc_law_same : FnScope ["found", "due", "one", "other"] ["found", "due"] (defScope s_law_same) := ⟨rfl, rfl, rfl, by decide +kernel, rfl, by decide +kernel, by decide +kernel⟩
-- cells []
-- def _law_pick at top 35
abbrev s_law_pick : Stmt := top 35
theorem sc_law_pick : FnScope ["draws", "some"] ["draws", "some"] (defScope s_law_pick) := ⟨rfl, rfl, rfl, by decide +kernel, rfl, by decide +kernel, by decide +kernel⟩
-- cells []
-- def _law_cleared at top 36
abbrev s_law_cleared : Stmt := top 36
theorem sc_law_cleared : FnScope ["text", "is_want", "found", "line", "bare", "is_bare", "sign"] ["text", "is_want"] (defScope s_law_cleared) := ⟨rfl, rfl, rfl, by decide +kernel, rfl, by decide +kernel, by decide +kernel⟩
-- cells []
-- def _law_words at top 37
abbrev s_law_words : Stmt := top 37
theorem sc_law_words : FnScope ["text", "found", "word", "sign"] ["text"] (defScope s_law_words) := ⟨rfl, rfl, rfl, by decide +kernel, rfl, by decide +kernel, by decide +kernel⟩
-- cells []
-- def _law_pieces at top 38
abbrev s_law_pieces : Stmt := top 38
theorem sc_law_pieces : FnScope ["text", "found", "at"] ["text"] (defScope s_law_pieces) := ⟨rfl, rfl, rfl, by decide +kernel, rfl, by decide +kernel, by decide +kernel⟩
-- cells []
-- def _law_fits at top 39
abbrev s_law_fits : Stmt := top 39
theorem sc_law_fits : FnScope ["pieces", "got", "ends", "number", "piece", "begins", "at"] ["pieces", "got"] (defScope s_law_fits) := ⟨rfl, rfl, rfl, by decide +kernel, rfl, by decide +kernel, by decide +kernel⟩
-- cells ['got', 'piece']
-- def _law_lets at top 40
abbrev s_law_lets : Stmt := top 40
theorem sc_law_lets : FnScope ["want", "got", "rules", "pieces"] ["want", "got", "rules"] (defScope s_law_lets) := ⟨rfl, rfl, rfl, by decide +kernel, rfl, by decide +kernel, by decide +kernel⟩
-- cells []
-- def _law_rules at top 41
abbrev s_law_rules : Stmt := top 41
theorem sc_law_rules : FnScope ["draws", "words", "word"] ["draws"] (defScope s_law_rules) := ⟨rfl, rfl, rfl, by decide +kernel, rfl, by decide +kernel, by decide +kernel⟩
-- cells ['draws']
-- def _law_handed at top 42
abbrev s_law_handed : Stmt := top 42
theorem sc_law_handed : FnScope ["draws", "rules", "left", "found"] ["draws", "rules"] (defScope s_law_handed) := ⟨rfl, rfl, rfl, by decide +kernel, rfl, by decide +kernel, by decide +kernel⟩
-- cells []
-- def _law_bare_name at top 43
abbrev s_law_bare_name : Stmt := top 43
theorem sc_law_bare_name : FnScope ["text"] ["text"] (defScope s_law_bare_name) := ⟨rfl, rfl, rfl, by decide +kernel, rfl, by decide +kernel, by decide +kernel⟩
-- cells []
-- def _law_error at top 44
abbrev s_law_error : Stmt := top 44
theorem sc_law_error : FnScope ["draws", "last", "name", "some"] ["draws"] (defScope s_law_error) := ⟨rfl, rfl, rfl, by decide +kernel, rfl, by decide +kernel, by decide +kernel⟩
-- cells []
-- def law at top 45
abbrev s_law : Stmt := top 45
theorem sc_law : FnScope ["script", "draws", "turn", "want", "got", "rules", "free", "due", "flags"] ["script"] (defScope s_law) := ⟨rfl, rfl, rfl, by decide +kernel, rfl, by decide +kernel, by decide +kernel⟩
-- cells []
def v_FLAGS : List Str := ["DONT_ACCEPT_TRUE_FOR_1", "DONT_ACCEPT_BLANKLINE", "NORMALIZE_WHITESPACE", "ELLIPSIS", "SKIP", "IGNORE_EXCEPTION_DETAIL", "REPORT_ONLY_FIRST_FAILURE", "FAIL_FAST"]
def v_TRUTHS (z : Str) : V := if z = "1\n" then .str "True\n" else if z = "0\n" then .str "False\n" else .non

/-! ### small words -/
theorem same_new {H : Hp} {p : Addr} {o : HO} (h : H p = none) : Same H (upd H p o) := fun b x e => by
  rw [upd_ne (ne_of_none e h)]
  exact e
theorem line_of {n : Nat} (h : n ≤ 1000000) : n ≤ sizeLine := Nat.le_trans h (by decide)
/-- a def of the text, as its callers see it -/
structure Own (P : Program) (w : World) (K : PySem.W.Frag) (mg : Str → Option Value) (base : Heap) (x : Str) (k : Nat) (ps : List Str) (dvs : List V) (sp : Sp) : Prop where
  ex : ∃ f fd ds, FnOk P w K mg base CX0 k f fd ps sp ∧ mg x = some (.ref f) ∧ PySem.W.keepIn K (.ref f) = true ∧ Binds K fd ps ds ∧ Vals dvs ds
section
variable {X : Cx} {x : Str} {k : Nat} {ps : List Str} {dvs : List V} {sp : Sp} {e : Expr} {es : List Expr} {t : TA} {p pos : Pos}
theorem Own.mk' {P : Program} {w : World} {K : PySem.W.Frag} {mg : Str → Option Value} {base : Heap} {f : Addr} {fd : FuncData} {ds : List Value} (a : FnOk P w K mg base CX0 k f fd ps sp) (b : mg x = some (.ref f)) (c : PySem.W.keepIn K (.ref f) = true) (d : Binds K fd ps ds) (v : Vals dvs ds) : Own P w K mg base x k ps dvs sp := ⟨_, _, _, a, b, c, d, v⟩
theorem pe_own (O : Own X.prog X.w X.K X.mg X.base x k ps dvs sp) (hr : Room k X.A) (hg : Gl X x) (ha : PA X (e :: es) t) (hdb : (x == ("__debug__" : Str)) = false := by decide) (he : starEach (e :: es) X.env = (false, eval e X.env) :: starEach es X.env := by rfl) (hpl : (backTo pos (starEach es X.env)).any (·.1) = false := by rfl) :
    PE X (.Call (.Name x p) (e :: es) [] pos) (tCall sp dvs E0 t) := by
  obtain ⟨f, fd, ds, F, hm, hk, hb, hd⟩ := O.ex
  exact pe_call F hr hg hm hk hb hd pass0 ha hdb he hpl
theorem pe_own0 (O : Own X.prog X.w X.K X.mg X.base x k ps dvs sp) (hr : Room k X.A) (hg : Gl X x) (hdb : (x == ("__debug__" : Str)) = false := by decide) :
    PE X (.Call (.Name x p) [] [] pos) (tCall sp dvs E0 tNil) := by
  obtain ⟨f, fd, ds, F, hm, hk, hb, hd⟩ := O.ex
  exact pe_call0 F hr hg hm hk hb hd pass0 hdb
/-- a statement, a word about what stands behind it, the rest -/
def tCut (t u : TS) : TS := fun D σ H => ∃ Mid : L2.St → Hp → Prop, t { D with nx := Mid } σ H ∧ ∀ σ' H', Mid σ' H' → u D σ' H'
theorem pss_cut {st : Stmt} {rest : List Stmt} {t u : TS} (h1 : PS X st t) (h2 : PSs X rest u) : PSs X (st :: rest) (tCut t u) := by
  refine ⟨fun pins s σ H D I h => ?_⟩
  obtain ⟨Mid, hm, hu⟩ := h
  refine wpAny_execs_cons (thn (h1.run pins s σ H { D with nx := Mid } I hm) fun f s1 q => ?_)
  cases f with
  | next =>
    obtain ⟨σ', H', I', q⟩ := q
    exact h2.run pins s1 σ' H' D I' (hu σ' H' q)
  | ret v => exact q
  | brk => exact q
  | cont => exact q
end
theorem int_at {ns : List Int} {i : Nat} {x : V} (h : (ns.map V.int)[i]? = some x) : ∃ z, x = V.int z := by
  rw [List.getElem?_map] at h
  cases e : ns[i]? with
  | none =>
    rw [e] at h
    cases h
  | some z =>
    rw [e] at h
    exact ⟨z, (Option.some.inj h).symm⟩

/-! ### steps that want one token out: the judgements of the layer from states with a token -/
section
variable {α : Type} {M : Model} {A : Around} {s : Shared}
theorem thnK {t : Sem α} {Q Q' : α → Shared → Prop} {E : Value → Shared → Prop} (hk : 1 ≤ s.toks) (h : wpAny M A t Q E s) (hQ : ∀ a s', 1 ≤ s'.toks → Q a s' → Q' a s') : wpAny M A t Q' E s :=
  wpAny_mono (PySem.wpAny_toks_of hk h) (fun a s' x => hQ a s' x.1 x.2) fun _ _ x => x.2
end
structure ET (X : Cx) (e : Expr) (t : TE) : Prop where
  run : ∀ (pins : List (Addr × Obj)) (s : Shared) (σ : L2.St) (H : Hp) (Q : VK), 1 ≤ s.toks → Inv X pins σ H s → t σ H Q → wpAny (model X.prog X.w) X.A (eval e X.env) (EP X pins σ Q) X.xe s
structure TT' (X : Cx) (e : Expr) (t : TT) : Prop where
  run : ∀ (pins : List (Addr × Obj)) (s : Shared) (σ : L2.St) (H : Hp) (Q : Bool → Hp → Prop), 1 ≤ s.toks → Inv X pins σ H s → t σ H Q → wpAny (model X.prog X.w) X.A (isTrue e X.env (eval e X.env)) (TP X pins σ Q) X.xe s
structure WT (X : Cx) (e : Expr) (t : TT) : Prop where
  run : ∀ (whole : Sem Value) (pins : List (Addr × Obj)) (s : Shared) (σ : L2.St) (H : Hp) (Q : Bool → Hp → Prop), 1 ≤ s.toks → Inv X pins σ H s → t σ H Q → wpAny (model X.prog X.w) X.A (isTrue e X.env whole) (TP X pins σ Q) X.xe s
structure AT (X : Cx) (es : List Expr) (t : TA) : Prop where
  run : ∀ (pos : Pos) (pins : List (Addr × Obj)) (s : Shared) (σ : L2.St) (H : Hp) (Q : List V → Hp → Prop), 1 ≤ s.toks → Inv X pins σ H s → t σ H Q → wpAny (model X.prog X.w) X.A (spliced (backTo pos (starEach es X.env))) (AP X pins σ Q) X.xe s
structure ST (X : Cx) (st : Stmt) (t : TS) : Prop where
  run : ∀ (pins : List (Addr × Obj)) (s : Shared) (σ : L2.St) (H : Hp) (D : Ends), 1 ≤ s.toks → Inv X pins σ H s → t D σ H → wpAny (model X.prog X.w) X.A (exec st X.env) (SP X pins D) X.xe s
structure BT (X : Cx) (st : List Stmt) (t : TS) : Prop where
  run : ∀ (pins : List (Addr × Obj)) (s : Shared) (σ : L2.St) (H : Hp) (D : Ends), 1 ≤ s.toks → Inv X pins σ H s → t D σ H → wpAny (model X.prog X.w) X.A (execs st X.env) (SP X pins D) X.xe s
/-- the same, and behind it a token is out for sure -/
structure AK (X : Cx) (es : List Expr) (t : TA) : Prop where
  run : ∀ (pos : Pos) (pins : List (Addr × Obj)) (s : Shared) (σ : L2.St) (H : Hp) (Q : List V → Hp → Prop), Inv X pins σ H s → t σ H Q → wpAny (model X.prog X.w) X.A (spliced (backTo pos (starEach es X.env))) (fun us s' => 1 ≤ s'.toks ∧ AP X pins σ Q us s') X.xe s
structure EK (X : Cx) (e : Expr) (t : TE) : Prop where
  run : ∀ (pins : List (Addr × Obj)) (s : Shared) (σ : L2.St) (H : Hp) (Q : VK), Inv X pins σ H s → t σ H Q → wpAny (model X.prog X.w) X.A (eval e X.env) (fun u s' => 1 ≤ s'.toks ∧ EP X pins σ Q u s') X.xe s
structure SK (X : Cx) (st : Stmt) (t : TS) : Prop where
  run : ∀ (pins : List (Addr × Obj)) (s : Shared) (σ : L2.St) (H : Hp) (D : Ends), Inv X pins σ H s → t D σ H → wpAny (model X.prog X.w) X.A (exec st X.env) (fun f s' => 1 ≤ s'.toks ∧ SP X pins D f s') X.xe s
structure BK (X : Cx) (st : List Stmt) (t : TS) : Prop where
  run : ∀ (pins : List (Addr × Obj)) (s : Shared) (σ : L2.St) (H : Hp) (D : Ends), Inv X pins σ H s → t D σ H → wpAny (model X.prog X.w) X.A (execs st X.env) (fun f s' => 1 ≤ s'.toks ∧ SP X pins D f s') X.xe s
structure FnT (P : Program) (w : World) (K : PySem.W.Frag) (mg : Str → Option Value) (base : Heap) (CX : CXT) (k : Nat) (f : Addr) (fd : FuncData) (ps : List Str) (sp : Sp) : Prop where
  len : ∀ vs H Q E, sp vs H Q E → vs.length = ps.length
  run : ∀ (A : Around) (outer : List Env) (s : Shared) (H : Hp) (args : Args) (us : List Value) (vs : List V) (Q : VK) (E : XK), 1 ≤ s.toks → Room k A → Env0 P w K mg base A outer s H → BindsTo s fd args (ps.zip us) → Vals vs us → sp vs H Q E →
    codeAny (model P w) A (.call (.ref f) args) (CR CX outer P w H s Q E) s
structure FnK (P : Program) (w : World) (K : PySem.W.Frag) (mg : Str → Option Value) (base : Heap) (CX : CXT) (k : Nat) (f : Addr) (fd : FuncData) (ps : List Str) (sp : Sp) : Prop where
  len : ∀ vs H Q E, sp vs H Q E → vs.length = ps.length
  run : ∀ (A : Around) (outer : List Env) (s : Shared) (H : Hp) (args : Args) (us : List Value) (vs : List V) (Q : VK) (E : XK), Room k A → Env0 P w K mg base A outer s H → BindsTo s fd args (ps.zip us) → Vals vs us → sp vs H Q E →
    codeAny (model P w) A (.call (.ref f) args) (fun r s' => ((∃ e, r = .error e) ∨ 1 ≤ s'.toks) ∧ CR CX outer P w H s Q E r s') s
structure OwnT (P : Program) (w : World) (K : PySem.W.Frag) (mg : Str → Option Value) (base : Heap) (x : Str) (k : Nat) (ps : List Str) (dvs : List V) (sp : Sp) : Prop where
  ex : ∃ f fd ds, FnT P w K mg base CX0 k f fd ps sp ∧ mg x = some (.ref f) ∧ PySem.W.keepIn K (.ref f) = true ∧ Binds K fd ps ds ∧ Vals dvs ds
structure OwnK (P : Program) (w : World) (K : PySem.W.Frag) (mg : Str → Option Value) (base : Heap) (x : Str) (k : Nat) (ps : List Str) (dvs : List V) (sp : Sp) : Prop where
  ex : ∃ f fd ds, FnK P w K mg base CX0 k f fd ps sp ∧ mg x = some (.ref f) ∧ PySem.W.keepIn K (.ref f) = true ∧ Binds K fd ps ds ∧ Vals dvs ds
section
variable {X : Cx} {a b c e o : Expr} {es rest' : List Expr} {ta tb tc te to : TE} {uA uB uC : TT} {tx : TA} {pos : Pos} {st : Stmt} {rest bd bd' : List Stmt} {t u : TS}
theorem ET.of (h : PE X e te) : ET X e te := ⟨fun pins s σ H Q _ I q => h.run pins s σ H Q I q⟩
theorem TT'.of (h : PT X e uA) : TT' X e uA := ⟨fun pins s σ H Q _ I q => h.run pins s σ H Q I q⟩
theorem WT.of (h : PW X e uA) : WT X e uA := ⟨fun wh pins s σ H Q _ I q => h.run wh pins s σ H Q I q⟩
theorem WT.pt (h : WT X e uA) : TT' X e uA := ⟨h.run _⟩
theorem AT.of (h : PA X es tx) : AT X es tx := ⟨fun pos pins s σ H Q _ I q => h.run pos pins s σ H Q I q⟩
theorem ST.of (h : PS X st t) : ST X st t := ⟨fun pins s σ H D _ I q => h.run pins s σ H D I q⟩
theorem BT.of (h : PSs X bd t) : BT X bd t := ⟨fun pins s σ H D _ I q => h.run pins s σ H D I q⟩
/-- arguments -/
theorem at_cons (ha : ET X e te) (hr : AT X es tx) (hs : starEach (e :: es) X.env = (false, eval e X.env) :: starEach es X.env := by rfl) : AT X (e :: es) (tCons te tx) := by
  refine ⟨fun pos pins s σ H Q hk I h => ?_⟩
  rw [hs]
  show wpAny _ _ (spliced ((false, eval e X.env) :: backTo pos (starEach es X.env))) _ _ s
  refine Calls.spliced_cons (thnK hk (ha.run pins s σ H _ hk I h) fun v s1 k1 ⟨x, H1, I1, r1, q1⟩ => ?_)
  exact thn (hr.run pos pins s1 σ H1 _ k1 I1 q1) fun us s2 ⟨xs, H2, I2, r2, q2⟩ => ⟨x :: xs, H2, I2, .cons r1 r2, q2⟩
theorem at_nil : AT X [] tNil := .of pa_nil
theorem binK (ha : ET X a ta) (hb : ET X b tb) {pins : List (Addr × Obj)} {s : Shared} {σ : L2.St} {H : Hp} {R : V → V → Hp → Prop} (hk : 1 ≤ s.toks) (I : Inv X pins σ H s)
    (h : ta σ H fun x H1 => tb σ H1 fun y H2 => R x y H2) {Q : Value → Shared → Prop} {f : Value → Value → Sem Value}
    (hf : ∀ v u s2 x y H2, Inv X pins σ H2 s2 → RelV x v → RelV y u → R x y H2 → wpAny (model X.prog X.w) X.A (f v u) Q X.xe s2) :
    wpAny (model X.prog X.w) X.A (eval a X.env) (fun v s₁ => wpAny (model X.prog X.w) X.A (eval b X.env) (fun u s₂ => wpAny (model X.prog X.w) X.A (f v u) Q X.xe s₂) X.xe s₁) X.xe s := by
  refine thnK hk (ha.run pins s σ H _ hk I h) fun v s1 k1 ⟨x, H1, I1, r1, q1⟩ => ?_
  refine thn (hb.run pins s1 σ H1 _ k1 I1 q1) fun u s2 ⟨y, H2, I2, r2, q2⟩ => ?_
  exact hf v u s2 x y H2 I2 r1 r2 q2
theorem et_op {op : Operator} {r : R2} (ho : OpR X (binaryOp op) r) (ha : ET X a ta) (hb : ET X b tb) : ET X (.BinOp a op b pos) (tOp r ta tb) :=
  ⟨fun pins s σ H Q hk I h => wpAny_BinOp (binK ha hb hk I h fun v u s2 x y H2 I2 rx ry q => ho pins s2 σ H2 x y v u Q I2 rx ry q)⟩
theorem et_ix {r : R2} (hr : IxR X r) (ha : ET X a ta) (hb : ET X b tb) (hs : PlainIx b) : ET X (.Subscript a b pos) (tOp r ta tb) :=
  ⟨fun pins s σ H Q hk I h => Subscript_ (binK ha hb hk I h fun v u s2 x y H2 I2 rx ry q => hr a b pins s2 σ H2 x y v u Q I2 rx ry q (hs _ _))⟩
theorem et_cmpR {op : CmpOp} {r : R2} (ho : OpR X (compareOp op) r) (ha : ET X a ta) (hb : ET X b tb) (hm : behindInMarks op b = false) : ET X (.Compare a [op] [b] pos) (tOp r ta tb) :=
  ⟨fun pins s σ H Q hk I h => wpAny_Compare1 (binK ha hb hk I h fun v u s2 x y H2 I2 rx ry q => ho pins s2 σ H2 x y v u Q I2 rx ry q) hm⟩
theorem tt_cmpR {op : CmpOp} {r : R2} (ho : OpR X (compareOp op) r) (ha : ET X a ta) (hb : ET X b tb) (hm : behindInMarks op b = false) : TT' X (.Compare a [op] [b] pos) (tTest (tOp r ta tb)) := by
  refine ⟨fun pins s σ H Q hk I h => ?_⟩
  refine wpAny_isTrue_Compare1 (thnK hk (ha.run pins s σ H _ hk I h) fun v s1 k1 ⟨x, H1, I1, r1, q1⟩ => thn (hb.run pins s1 σ H1 _ k1 I1 q1) fun u s2 ⟨y, H2, I2, r2, q2⟩ =>
    thn (ho pins s2 σ H2 x y v u _ I2 r1 r2 q2) fun c s3 ⟨z, H3, I3, r3, k, e, q3⟩ => ?_) hm
  subst e
  cases r3
  exact wpAny_truthy_bool ⟨H3, I3, q3⟩
theorem tt_val (h : ET X e te) (he : ∀ whole, isTrue e X.env whole = (do let v ← whole; standAt e.pos; holding [v] (truthy v)) := by intro _; rfl) : TT' X e (tB te) := by
  refine ⟨fun pins s σ H Q hk I hw => ?_⟩
  refine isTrue_plain (thn (h.run pins s σ H _ hk I hw) fun v s1 ⟨x, H1, I1, r1, q1⟩ => ?_) (he _)
  obtain ⟨k, rfl, q⟩ := q1
  cases r1
  exact wpAny_truthy_bool ⟨H1, I1, q⟩
theorem tt_not (ha : TT' X a uA) : TT' X (.UnaryOp .Not a pos) (tNot uA) :=
  ⟨fun pins s σ H Q hk I h => isTrue_not (ha.run pins s σ H (fun c H1 => Q (!c) H1) hk I h)⟩
theorem wt_and1 (ha : TT' X a uA) : WT X (.BoolOp .And [a] pos) uA := by
  refine ⟨fun wh pins s σ H Q hk I h => ?_⟩
  refine isTrue_and (thn (ha.run pins s σ H Q hk I h) fun c s1 e => ?_)
  cases c with
  | true => exact isTrue_and_nil e
  | false => exact e
theorem wt_or1 (ha : TT' X a uA) : WT X (.BoolOp .Or [a] pos) uA := by
  refine ⟨fun wh pins s σ H Q hk I h => ?_⟩
  refine isTrue_or (thn (ha.run pins s σ H Q hk I h) fun c s1 e => ?_)
  cases c with
  | false => exact isTrue_or_nil e
  | true => exact e
theorem wt_and (ha : TT' X a uA) (hb : WT X (.BoolOp .And (b :: rest') pos) uB) : WT X (.BoolOp .And (a :: b :: rest') pos) (tAnd uA uB) := by
  refine ⟨fun wh pins s σ H Q hk I h => ?_⟩
  refine isTrue_and (thnK hk (ha.run pins s σ H _ hk I h) fun c s1 k1 ⟨H1, I1, q1⟩ => ?_)
  cases c with
  | true => exact hb.run wh pins s1 σ H1 Q k1 I1 q1
  | false => exact ⟨H1, I1, q1⟩
theorem wt_or (ha : TT' X a uA) (hb : WT X (.BoolOp .Or (b :: rest') pos) uB) : WT X (.BoolOp .Or (a :: b :: rest') pos) (tOr uA uB) := by
  refine ⟨fun wh pins s σ H Q hk I h => ?_⟩
  refine isTrue_or (thnK hk (ha.run pins s σ H _ hk I h) fun c s1 k1 ⟨H1, I1, q1⟩ => ?_)
  cases c with
  | true => exact ⟨H1, I1, q1⟩
  | false => exact hb.run wh pins s1 σ H1 Q k1 I1 q1
theorem et_one {op} (h : ET X a ta) : ET X (.BoolOp op [a] pos) ta := ⟨fun pins s σ H Q hk I hw => BoolOp_one (h.run pins s σ H Q hk I hw)⟩
theorem et_and (ha : ET X a ta) (hb : ET X (.BoolOp .And (b :: rest') pos) tb) : ET X (.BoolOp .And (a :: b :: rest') pos) (tAndV ta tb) := by
  refine ⟨fun pins s σ H Q hk I h => ?_⟩
  refine BoolOp_and (thnK hk (ha.run pins s σ H _ hk I h) fun v s1 k1 ⟨x, H1, I1, r1, q1⟩ => ?_)
  obtain ⟨c, rfl, q1⟩ := q1
  cases r1
  refine wpAny_truthy_bool ?_
  cases c with
  | true => exact hb.run pins s1 σ H1 Q k1 I1 q1
  | false => exact ⟨.bl false, H1, I1, rfl, q1⟩
theorem et_or (ha : ET X a ta) (hb : ET X (.BoolOp .Or (b :: rest') pos) tb) : ET X (.BoolOp .Or (a :: b :: rest') pos) (tOrV ta tb) := by
  refine ⟨fun pins s σ H Q hk I h => ?_⟩
  refine BoolOp_or (thnK hk (ha.run pins s σ H _ hk I h) fun v s1 k1 ⟨x, H1, I1, r1, q1⟩ => ?_)
  obtain ⟨c, rfl, q1⟩ := q1
  cases r1
  refine wpAny_truthy_bool ?_
  cases c with
  | false => exact hb.run pins s1 σ H1 Q k1 I1 q1
  | true => exact ⟨.bl true, H1, I1, rfl, q1⟩
theorem et_not (ha : ET X a ta) : ET X (.UnaryOp .Not a pos) (tNotV ta) := by
  refine ⟨fun pins s σ H Q hk I h => ?_⟩
  refine UnaryOp_ (thn (ha.run pins s σ H _ hk I h) fun v s1 ⟨x, H1, I1, r1, q1⟩ => ?_)
  obtain ⟨c, rfl, q1⟩ := q1
  cases r1
  exact not_of (wpAny_truthy_bool ⟨.bl (!c), H1, I1, rfl, q1⟩)
theorem et_ifExp (hc : TT' X c uC) (ha : ET X a ta) (hb : ET X b tb) : ET X (.IfExp c a b pos) (tIf uC ta tb) := by
  refine ⟨fun pins s σ H Q hk I h => ?_⟩
  refine wpAny_IfExp (thnK hk (hc.run pins s σ H _ hk I h) fun d s1 k1 ⟨H1, I1, q1⟩ => ?_)
  cases d with
  | true => exact ha.run pins s1 σ H1 Q k1 I1 q1
  | false => exact hb.run pins s1 σ H1 Q k1 I1 q1
theorem et_tup {x1} (h : AT X es tx) : ET X (.Tuple es x1 pos) (tTup tx) := by
  refine ⟨fun pins s σ H Q hk I hq => ?_⟩
  refine wpAny_Tuple_spliced (thn (h.run pos pins s σ H _ hk I hq) fun us s1 ⟨xs, H1, I1, r, z, q⟩ => ⟨by rw [← r.length]; exact z, ?_⟩)
  have hf : H1 s1.heap.objs.size = none := I1.hok.fresh (Nat.le_refl _)
  refine ⟨.ref s1.heap.objs.size, upd H1 s1.heap.objs.size (.tup xs), I1.laid (t' := s1.toks) (fun b u e => Heap.get?_push_of_some _ e) (Nat.le_refl _) ?_, rfl, q _ hf⟩
  exact ⟨z, us, r, ⟨_, Heap.get?_push_size _ rfl, rfl, _, rfl⟩⟩
theorem et_lst (h : AT X es tx) : ET X (.List es pos) (tLst tx) := by
  refine ⟨fun pins s σ H Q hk I hq => ?_⟩
  refine wpAny_List_spliced (thn (h.run pos pins s σ H _ hk I hq) fun us s1 ⟨xs, H1, I1, r, z, q⟩ => ⟨by rw [← r.length]; exact z, ?_⟩)
  have hf : H1 s1.heap.objs.size = none := I1.hok.fresh (Nat.le_refl _)
  refine ⟨.ref s1.heap.objs.size, upd H1 s1.heap.objs.size (.lst xs), I1.laid (t' := s1.toks) (fun b u e => Heap.get?_push_of_some _ e) (Nat.le_refl _) ?_, rfl, q _ hf⟩
  exact ⟨z, us, 0, r, Heap.get?_push_size _ rfl⟩
/-- a method of a built-in type -/
theorem et_bm {T id : String} {name : Str} {apos cpos : Pos} {r : V → List V → Hp → VK → Prop} (pa : PlainAttrs T) (slot : Slot T name id) (hty : typeOf (.builtin id) = pure (.type "method_descriptor")) (hm : MtR X id r) (ho : ET X o to) (ha : AT X (e :: es) tx)
    (hbase : attributeBase o name X.env (eval o X.env) = eval o X.env := by rfl)
    (hfew : ((backTo cpos (starEach (e :: es) X.env)).all (fun x => !x.1) && (backToKw cpos (keywordEach [] X.env)).all (fun x => x.1.isSome)
      && decide ((e :: es).length + ([] : List Keyword).length + (if ([] : List Keyword).isEmpty then 0 else 1) < 30)) = true := by rfl)
    (hline : (apos.endLine == cpos.line) = true := by rfl) (hs : starEach (e :: es) X.env = (false, eval e X.env) :: starEach es X.env := by rfl) (hplain : (backTo cpos (starEach es X.env)).any (·.1) = false := by rfl) :
    ET X (.Call (.Attribute o name apos) (e :: es) [] cpos) (tBM X.K T r to tx) := by
  refine ⟨fun pins s σ H Q hk I h => ?_⟩
  refine wpAny_Call_method_late hbase hfew hline rfl (thnK hk (ho.run pins s σ H _ hk I h) fun v s1 k1 ⟨x, H1, I1, r1, ty, q1⟩ => ?_)
  obtain ⟨h1, h2⟩ := tyV_is I1 r1 ty
  refine ⟨T, id, pa, slot, hty, h1, h2, ?_⟩
  have hA := ha.run cpos pins s1 σ H1 _ k1 I1 q1
  rw [hs] at hA ⊢
  refine Calls.callWith_builtin (by show (false || (backTo cpos (starEach es X.env)).any (·.1)) = false; rw [hplain] <;> rfl) (Calls.evalArgs_plain ?_)
  exact thn hA fun us s2 ⟨vs, H2, I2, r2, q2⟩ => hm pins s2 σ H2 x vs v us Q I2 r1 r2 q2
/-- statements -/
theorem st_expr (he : ET X e te) (hs : swapsWith e none pos.line X.env = pure false := by rfl) : ST X (.Expr e pos) (tDrop te) :=
  ⟨fun pins s σ H D hk I h => wpAny_Expr_any (thn (he.run pins s σ H _ hk I h) fun v s1 ⟨x, H1, I1, r1, q1⟩ => ⟨σ, H1, I1, q1⟩) I.quiet hs⟩
theorem st_ret (he : ET X e te) : ST X (.Return (some e) pos) (tRet te) :=
  ⟨fun pins s σ H D hk I h => wpAny_Return_some (thn (he.run pins s σ H _ hk I h) fun v s1 ⟨x, H1, I1, r1, q1⟩ => ⟨x, σ, H1, I1, r1, q1⟩)⟩
theorem st_if (hc : TT' X c uC) (ha : BT X bd t) (hb : BT X bd' u) : ST X (.If c bd bd' pos) (tIfS uC t u) := by
  refine ⟨fun pins s σ H D hk I h => ?_⟩
  refine wpAny_If (thnK hk (hc.run pins s σ H _ hk I h) fun d s1 k1 ⟨H1, I1, q1⟩ => ?_)
  cases d with
  | true => exact ha.run pins s1 σ H1 D k1 I1 q1
  | false => exact hb.run pins s1 σ H1 D k1 I1 q1
theorem st_asg {tg : Expr} {g : TG} (he : ET X e te) (hg : PG X tg g) (hs : swapsWithSole [tg] e pos.line X.env = pure false := by rfl) (hw : swappedStores [tg] e X.env = pure none := by rfl)
    (h1 : (assignEach [tg] X.env).map (·.2) = [assign tg X.env] := by rfl) : ST X (.Assign [tg] e pos) (tAsg te g) := by
  refine ⟨fun pins s σ H D hk I h => ?_⟩
  refine wpAny_Assign_stores (thn (he.run pins s σ H _ hk I h) fun v s1 ⟨x, H1, I1, r1, q1⟩ => ?_) hs hw
  rw [h1]
  exact thn (hg.run pins s1 σ H1 x v _ I1 r1 q1) fun _ s2 q => q
theorem st_set {i : Nat} {x : Str} {pos' : Pos} (hN : X.N.Nodup) (hi : X.N[i]? = some x) (hx : Loc X.env.scope x) (he : ET X e te) (hs : swapsWith e (some (.Name x pos')) pos.line X.env = pure false := by rfl) (hf : X.fn x = true ∨ X.env.scope.names.lookup x = some .local := by first | exact .inl rfl | exact .inr rfl | assumption) :
    ST X (.Assign [.Name x pos'] e pos) (tAsg te (gName i)) := by
  refine ⟨fun pins s σ H D hk I h => ?_⟩
  refine wpAny_Assign_Name (thn (he.run pins s σ H _ hk I h) fun v s1 ⟨y, H1, I1, r1, q1⟩ => ?_) hs
  exact store_ok I1 hN hi hx r1 (fun s2 I2 => ⟨_, H1, I2, q1⟩) hf
theorem bt_nil : BT X [] tNext := .of pss_nil
theorem bt_one (h1 : ST X st t) : BT X [st] t := by
  refine ⟨fun pins s σ H D hk I h => ?_⟩
  refine wpAny_execs_cons (thn (h1.run pins s σ H D hk I h) fun f s1 q => ?_)
  cases f with
  | next => exact wpAny_execs_nil q
  | ret v => exact q
  | brk => exact q
  | cont => exact q
theorem bt_cons (h1 : ST X st t) (h2 : BT X rest u) : BT X (st :: rest) (tSeq t u) := by
  refine ⟨fun pins s σ H D hk I h => ?_⟩
  refine wpAny_execs_cons (thnK hk (h1.run pins s σ H { D with nx := u D } hk I h) fun f s1 k1 q => ?_)
  cases f with
  | next =>
    obtain ⟨σ', H', I', q⟩ := q
    exact h2.run pins s1 σ' H' D k1 I' q
  | ret v => exact q
  | brk => exact q
  | cont => exact q
theorem bt_cut (h1 : ST X st t) (h2 : BT X rest u) : BT X (st :: rest) (tCut t u) := by
  refine ⟨fun pins s σ H D hk I h => ?_⟩
  obtain ⟨Mid, hm, hu⟩ := h
  refine wpAny_execs_cons (thnK hk (h1.run pins s σ H { D with nx := Mid } hk I hm) fun f s1 k1 q => ?_)
  cases f with
  | next =>
    obtain ⟨σ', H', I', q⟩ := q
    exact h2.run pins s1 σ' H' D k1 I' (hu σ' H' q)
  | ret v => exact q
  | brk => exact q
  | cont => exact q
/-- behind a statement that gives a token out -/
theorem pssk_cons (h1 : SK X st t) (h2 : BT X rest u) : PSs X (st :: rest) (tSeq t u) := by
  refine ⟨fun pins s σ H D I h => ?_⟩
  refine wpAny_execs_cons (thn (h1.run pins s σ H { D with nx := u D } I h) fun f s1 ⟨k1, q⟩ => ?_)
  cases f with
  | next =>
    obtain ⟨σ', H', I', q⟩ := q
    exact h2.run pins s1 σ' H' D k1 I' q
  | ret v => exact q
  | brk => exact q
  | cont => exact q
theorem st_for {iter tg : Expr} {wi : TI} {g : TG} {tb : TS} (hp : PassesOwn (model X.prog X.w) X.A X.env X.xe) (hc : X.calm = true) (hi : PI X tg iter wi) (hg : PG X tg g) (hb : BT X bd tb)
    (hs : ∀ x, foldedSetIterable iter X.env x = pure x := by intro _; rfl) : ST X (.For tg iter bd [] pos) (tFor wi g tb) := by
  refine ⟨fun pins s σ H D hk I h => ?_⟩
  refine wpAny_For (thnK hk (hi.run pins s σ H _ I h) fun v s1 k1 h1 => thnK k1 h1 fun itv s2 k2 h2 => ?_) hs
  obtain ⟨it, fp, tn, J, H2, e, I2, T, st2, f2, W, ⟨m0, w0⟩, turn⟩ := h2
  subst e
  have stat : ∀ {H' : Hp}, (∀ b ∈ fp, H' b = none) → ∀ b ∈ fp, FpOk X pins H' b := fun hn b hb => ⟨hn b hb, (f2 b hb).2⟩
  refine codeAny_forLoop_any (fun n s' => 1 ≤ s'.toks ∧ ∃ i σ' H', Inv X pins σ' H' s' ∧ tn i s'.heap ∧ (∀ b ∈ fp, H' b = none) ∧ W i n σ' H') ?_ m0 ⟨k2, 0, σ, H2, I2, st2, fun b hb => (f2 b hb).1, w0⟩
  rintro n s3 ⟨k3, i, σ3, H3, I3, st3, fr3, w3⟩
  rcases turn i n σ3 H3 w3 with ⟨stop, qn⟩ | ⟨go, N, hN, step⟩
  · refine wpAny_passesOwn hp (thn (T.done X rfl rfl rfl hc i pins s3 σ3 H3 X.xe I3 (stat fr3) st3 stop) fun r s4 ⟨hr, I4⟩ => ?_)
    subst hr
    exact wpAny_execs_nil ⟨σ3, H3, I4, qn⟩
  · refine wpAny_passesOwn hp (thnK k3 (T.item X rfl rfl rfl hc i pins s3 σ3 H3 X.xe I3 (stat fr3) st3 go) fun r s4 k4 ⟨u, hr, h4⟩ => ?_)
    subst hr
    refine wpAny_passesOwn hp (thnK k4 h4 fun _ s5 k5 ⟨x, H5, I5, r5, y5, st5, fr5⟩ => ?_)
    have I5' := I5.pinned (stat fr5) (T.obj _ _ st5)
    refine wpAny_passesOwn hp (thnK k5 (hg.run _ s5 σ3 H5 x u _ I5' r5 (step x H5 y5)) fun _ s6 k6 ⟨σ6, H6, I6, q6⟩ => ?_)
    refine wpAny_passesOwn hp (thnK k6 (hb.run _ s6 σ6 H6 _ k6 I6 q6) fun f s7 k7 q7 => ?_)
    have again : ∀ {σ7 : L2.St} {H7 : Hp}, Inv X (pins ++ pinsAt fp s5.heap) σ7 H7 s7 → N σ7 H7 → ∃ m, m < n ∧ 1 ≤ s7.toks ∧ ∃ i σ' H', Inv X pins σ' H' s7 ∧ tn i s7.heap ∧ (∀ b ∈ fp, H' b = none) ∧ W i m σ' H' := fun {σ7 H7} I7 n7 => by
      obtain ⟨m', hm, w7⟩ := hN σ7 H7 n7
      refine ⟨m', hm, k7, i + 1, σ7, H7, I7.unpinned, T.keep _ _ _ st5 fun b hb o e => (I7.pin (b, o) (List.mem_append_right _ (List.mem_append_right _ (mem_pinsAt hb e)))).1, fun b hb => ?_, w7⟩
      obtain ⟨o, e, d⟩ := T.obj _ _ st5 b hb
      exact (I7.pin (b, o) (List.mem_append_right _ (List.mem_append_right _ (mem_pinsAt hb e)))).2.1
    cases f with
    | next => obtain ⟨σ7, H7, I7, n7⟩ := q7; exact again I7 n7
    | cont => obtain ⟨σ7, H7, I7, n7⟩ := q7; exact again I7 n7
    | brk => obtain ⟨σ7, H7, I7, q7⟩ := q7; exact ⟨σ7, H7, I7.unpinned, q7⟩
    | ret v => obtain ⟨x7, σ7, H7, I7, r7, q7⟩ := q7; exact ⟨x7, σ7, H7, I7.unpinned, r7, q7⟩
theorem st_while {tb : TS} (hp : PassesOwn (model X.prog X.w) X.A X.env X.xe) (hc : TT' X c uC) (hb : BT X bd tb) : ST X (.While c bd [] pos) (tWhile uC tb) := by
  refine ⟨fun pins s σ H D hk I h => ?_⟩
  obtain ⟨W, ⟨m0, w0⟩, turn⟩ := h
  refine wpAny_While (codeAny_whileLoop (fun n s' => 1 ≤ s'.toks ∧ ∃ σ' H', Inv X pins σ' H' s' ∧ W n σ' H') ?_ m0 ⟨hk, σ, H, I, w0⟩)
  rintro n s1 ⟨k1, σ1, H1, I1, w1⟩
  refine wpAny_passesOwn hp (thnK k1 (hc.run pins s1 σ1 H1 _ k1 I1 (turn n σ1 H1 w1)) fun b s2 k2 ⟨H2, I2, q2⟩ => ?_)
  cases b with
  | true =>
    obtain ⟨N, hN, q2⟩ := q2
    rw [if_pos rfl]
    refine wpAny_passesOwn hp (thnK k2 (hb.run pins s2 σ1 H2 _ k2 I2 q2) fun f s3 k3 q3 => ?_)
    cases f with
    | next =>
      obtain ⟨σ3, H3, I3, n3⟩ := q3
      obtain ⟨m', hm, w3⟩ := hN σ3 H3 n3
      exact ⟨m', hm, k3, σ3, H3, I3, w3⟩
    | cont =>
      obtain ⟨σ3, H3, I3, n3⟩ := q3
      obtain ⟨m', hm, w3⟩ := hN σ3 H3 n3
      exact ⟨m', hm, k3, σ3, H3, I3, w3⟩
    | brk => exact q3
    | ret v => exact q3
  | false =>
    rw [if_neg Bool.false_ne_true]
    exact wpAny_execs_nil ⟨σ1, H2, I2, q2⟩
/-- calls of own defs -/
theorem run_fnT {CX : CXT} {k : Nat} {f : Addr} {fd : FuncData} {ps : List Str} {ds : List Value} {dvs : List V} {sp : Sp} {E : XK} {pins : List (Addr × Obj)} {σ : L2.St} {H : Hp} {s : Shared} {Q : VK} {us : List Value} {vs : List V} (F : FnT X.prog X.w X.K X.mg X.base CX k f fd ps sp) (hr : Room k X.A) (hb : Binds X.K fd ps ds) (hd : Vals dvs ds) (hx : Passes CX X E)
    (hk : 1 ≤ s.toks) (I : Inv X pins σ H s) (r : Vals vs us) (h : sp (vs ++ dvs) H Q E) : wpAny (model X.prog X.w) X.A (call (.ref f) us) (EP X pins σ Q) X.xe s := by
  have r2 : Vals (vs ++ dvs) (us ++ ds) := r.append hd
  have hl : (us ++ ds).length = ps.length := by rw [← r2.length]; exact F.len _ _ _ _ h
  refine wpAny_call (codeAny_mono (F.run X.A X.stack s H ⟨us, []⟩ (us ++ ds) (vs ++ dvs) Q E hk hr I.env0 (hb s us I.kIn hl) r2 h) fun r s' hq => ?_)
  cases r with
  | error e => exact hx pins σ H s e s' I hq
  | ok fl =>
    cases fl with
    | ret u => exact I.after hq
    | next => exact False.elim hq
    | brk => exact False.elim hq
    | cont => exact False.elim hq
theorem run_fnK {CX : CXT} {k : Nat} {f : Addr} {fd : FuncData} {ps : List Str} {ds : List Value} {dvs : List V} {sp : Sp} {E : XK} {pins : List (Addr × Obj)} {σ : L2.St} {H : Hp} {s : Shared} {Q : VK} {us : List Value} {vs : List V} (F : FnK X.prog X.w X.K X.mg X.base CX k f fd ps sp) (hr : Room k X.A) (hb : Binds X.K fd ps ds) (hd : Vals dvs ds) (hx : Passes CX X E)
    (I : Inv X pins σ H s) (r : Vals vs us) (h : sp (vs ++ dvs) H Q E) : wpAny (model X.prog X.w) X.A (call (.ref f) us) (fun u s' => 1 ≤ s'.toks ∧ EP X pins σ Q u s') X.xe s := by
  have r2 : Vals (vs ++ dvs) (us ++ ds) := r.append hd
  have hl : (us ++ ds).length = ps.length := by rw [← r2.length]; exact F.len _ _ _ _ h
  refine wpAny_call (codeAny_mono (F.run X.A X.stack s H ⟨us, []⟩ (us ++ ds) (vs ++ dvs) Q E hr I.env0 (hb s us I.kIn hl) r2 h) fun r s' hq => ?_)
  cases r with
  | error e => exact hx pins σ H s e s' I hq.2
  | ok fl =>
    cases fl with
    | ret u => exact ⟨hq.1.elim (fun ⟨_, z⟩ => nomatch z) _root_.id, I.after hq.2⟩
    | next => exact False.elim hq.2
    | brk => exact False.elim hq.2
    | cont => exact False.elim hq.2
variable {x : Str} {k : Nat} {ps : List Str} {dvs : List V} {sp : Sp} {p : Pos}
theorem et_own (O : OwnT X.prog X.w X.K X.mg X.base x k ps dvs sp) (hr : Room k X.A) (hg : Gl X x) (ha : AT X (e :: es) tx) (hdb : (x == ("__debug__" : Str)) = false := by decide) (he : starEach (e :: es) X.env = (false, eval e X.env) :: starEach es X.env := by rfl) (hpl : (backTo pos (starEach es X.env)).any (·.1) = false := by rfl) :
    ET X (.Call (.Name x p) (e :: es) [] pos) (tCall sp dvs E0 tx) := by
  obtain ⟨f, fd, ds, F, hm, hkp, hb, hd⟩ := O.ex
  refine ⟨fun pins s σ H Q hk I h => ?_⟩
  refine wpAny_Call_Name_kw (ld_glob I hg hm ?_ hdb)
  refine PySem.W.callWith_K (h₀ := X.base) I.ok.mod.kin hkp (thnK hk (ha.run pos pins s σ H _ hk I h) fun us s1 k1 ⟨vs, H1, I1, r, q⟩ => ⟨I1.kIn, ?_⟩) he hpl
  exact run_fnT F hr hb hd pass0 k1 I1 r q
/-- a call of a def without tokens' care, its arguments with it -/
theorem et_ownP (O : Own X.prog X.w X.K X.mg X.base x k ps dvs sp) (hr : Room k X.A) (hg : Gl X x) (ha : AT X (e :: es) tx) (hdb : (x == ("__debug__" : Str)) = false := by decide) (he : starEach (e :: es) X.env = (false, eval e X.env) :: starEach es X.env := by rfl) (hpl : (backTo pos (starEach es X.env)).any (·.1) = false := by rfl) :
    ET X (.Call (.Name x p) (e :: es) [] pos) (tCall sp dvs E0 tx) := by
  obtain ⟨f, fd, ds, F, hm, hkp, hb, hd⟩ := O.ex
  refine ⟨fun pins s σ H Q hk I h => ?_⟩
  refine wpAny_Call_Name_kw (ld_glob I hg hm ?_ hdb)
  refine PySem.W.callWith_K (h₀ := X.base) I.ok.mod.kin hkp (thnK hk (ha.run pos pins s σ H _ hk I h) fun us s1 k1 ⟨vs, H1, I1, r, q⟩ => ⟨I1.kIn, ?_⟩) he hpl
  exact run_fn F hr hb hd pass0 I1 r q
theorem ek_own (O : OwnK X.prog X.w X.K X.mg X.base x k ps dvs sp) (hr : Room k X.A) (hg : Gl X x) (ha : PA X (e :: es) tx) (hdb : (x == ("__debug__" : Str)) = false := by decide) (he : starEach (e :: es) X.env = (false, eval e X.env) :: starEach es X.env := by rfl) (hpl : (backTo pos (starEach es X.env)).any (·.1) = false := by rfl) :
    EK X (.Call (.Name x p) (e :: es) [] pos) (tCall sp dvs E0 tx) := by
  obtain ⟨f, fd, ds, F, hm, hkp, hb, hd⟩ := O.ex
  refine ⟨fun pins s σ H Q I h => ?_⟩
  refine wpAny_Call_Name_kw (ld_glob I hg hm ?_ hdb)
  refine PySem.W.callWith_K (h₀ := X.base) I.ok.mod.kin hkp (thn (ha.run pos pins s σ H _ I h) fun us s1 ⟨vs, H1, I1, r, q⟩ => ⟨I1.kIn, ?_⟩) he hpl
  exact run_fnK F hr hb hd pass0 I1 r q
theorem sk_set {i : Nat} {y : Str} {pos' : Pos} (hN : X.N.Nodup) (hi : X.N[i]? = some y) (hx : Loc X.env.scope y) (he : EK X e te) (hs : swapsWith e (some (.Name y pos')) pos.line X.env = pure false := by rfl) (hf : X.fn y = true ∨ X.env.scope.names.lookup y = some .local := by first | exact .inl rfl | exact .inr rfl | assumption) :
    SK X (.Assign [.Name y pos'] e pos) (tAsg te (gName i)) := by
  refine ⟨fun pins s σ H D I h => ?_⟩
  refine wpAny_Assign_Name (thn (he.run pins s σ H _ I h) fun v s1 ⟨k1, z, H1, I1, r1, q1⟩ => ?_) hs
  exact thnK k1 (store_ok (Q := fun _ s2 => SP X pins D .next s2) I1 hN hi hx r1 (fun s2 I2 => ⟨_, H1, I2, q1⟩) hf) fun _ s2 k2 q => ⟨k2, q⟩
/-- what gives a token out: a written number among the items of a list -/
theorem ek_int {n : Int} {j : Nat} : EK X (.Constant (.int n) j pos) (tC (.int n)) :=
  ⟨fun pins s σ H Q I h => wpAny_Constant_int ⟨Nat.le_add_left 1 _, .int n, H, I.tok _, ⟨_, rfl⟩, h⟩⟩
theorem ak_here (ha : EK X e te) (hr : PA X es tx) (hs : starEach (e :: es) X.env = (false, eval e X.env) :: starEach es X.env := by rfl) : AK X (e :: es) (tCons te tx) := by
  refine ⟨fun pos pins s σ H Q I h => ?_⟩
  rw [hs]
  show wpAny _ _ (spliced ((false, eval e X.env) :: backTo pos (starEach es X.env))) _ _ s
  refine Calls.spliced_cons (thn (ha.run pins s σ H _ I h) fun v s1 ⟨k1, x, H1, I1, r1, q1⟩ => ?_)
  exact thnK k1 (hr.run pos pins s1 σ H1 _ I1 q1) fun us s2 k2 ⟨xs, H2, I2, r2, q2⟩ => ⟨k2, x :: xs, H2, I2, .cons r1 r2, q2⟩
theorem ak_there (ha : PE X e te) (hr : AK X es tx) (hs : starEach (e :: es) X.env = (false, eval e X.env) :: starEach es X.env := by rfl) : AK X (e :: es) (tCons te tx) := by
  refine ⟨fun pos pins s σ H Q I h => ?_⟩
  rw [hs]
  show wpAny _ _ (spliced ((false, eval e X.env) :: backTo pos (starEach es X.env))) _ _ s
  refine Calls.spliced_cons (thn (ha.run pins s σ H _ I h) fun v s1 ⟨x, H1, I1, r1, q1⟩ => ?_)
  exact thn (hr.run pos pins s1 σ H1 _ I1 q1) fun us s2 ⟨k2, xs, H2, I2, r2, q2⟩ => ⟨k2, x :: xs, H2, I2, .cons r1 r2, q2⟩
theorem ek_lst (h : AK X es tx) : EK X (.List es pos) (tLst tx) := by
  refine ⟨fun pins s σ H Q I hq => ?_⟩
  refine wpAny_List_spliced (thn (h.run pos pins s σ H _ I hq) fun us s1 ⟨k1, xs, H1, I1, r, z, q⟩ => ⟨by rw [← r.length]; exact z, ?_⟩)
  have hf : H1 s1.heap.objs.size = none := I1.hok.fresh (Nat.le_refl _)
  refine ⟨k1, .ref s1.heap.objs.size, upd H1 s1.heap.objs.size (.lst xs), I1.laid (t' := s1.toks) (fun b u e => Heap.get?_push_of_some _ e) (Nat.le_refl _) ?_, rfl, q _ hf⟩
  exact ⟨z, us, 0, r, Heap.get?_push_size _ rfl⟩
theorem sk_ret (he : EK X e te) : SK X (.Return (some e) pos) (tRet te) :=
  ⟨fun pins s σ H D I h => wpAny_Return_some (thn (he.run pins s σ H _ I h) fun v s1 ⟨k1, x, H1, I1, r1, q1⟩ => ⟨k1, x, σ, H1, I1, r1, q1⟩)⟩
theorem bk_one (h1 : SK X st t) : BK X [st] t := by
  refine ⟨fun pins s σ H D I h => ?_⟩
  refine wpAny_execs_cons (thn (h1.run pins s σ H D I h) fun f s1 ⟨k1, q⟩ => ?_)
  cases f with
  | next => exact wpAny_execs_nil ⟨k1, q⟩
  | ret v => exact ⟨k1, q⟩
  | brk => exact ⟨k1, q⟩
  | cont => exact ⟨k1, q⟩
end

/-! ### defs by their bodies: plain, from states with a token, giving one out -/
theorem BT.nox {X : Cx} {st : List Stmt} {t : TS} (h : BT X.nox st t) : BT X st t := ⟨fun pins s σ H D hk I hw =>
  wpAny_mono (h.run pins s σ H D hk (I.wish _) hw) (fun _ _ q => q.unwish) fun _ _ z => False.elim z⟩
theorem BK.nox {X : Cx} {st : List Stmt} {t : TS} (h : BK X.nox st t) : BK X st t := ⟨fun pins s σ H D I hw =>
  wpAny_mono (h.run pins s σ H D (I.wish _) hw) (fun _ _ q => ⟨q.1, q.2.unwish⟩) fun _ _ z => False.elim z⟩
abbrev Fn (K : PySem.W.Frag) (x : Str) (st : Stmt) (dvs : List V) (f : Addr) (fd : FuncData) : Prop := FunD K x x (defArgs st) (defBody st) (defScope st) dvs [] f fd
section
variable {P : Program} {w : World} {K : PySem.W.Frag} {mg : Str → Option Value} {base : Heap} {x : Str} {st : Stmt} {dvs : List V} {f : Addr} {fd : FuncData} {N ps : List Str} {k : Nat} {sp : Sp}
theorem Fn.mk' {oc dV kV doc pm cdv ct : Value} {od an : Option Addr} {osl : Array (Option Value)} (l : K.lookup f = some ⟨oc, od, .func (PySem.W.fnOf x x (defArgs st) (defBody st) (defScope st) dV kV doc pm an cdv ct), osl⟩)
    (c : PySem.W.codeIn K cdv x = true) (h : PySem.W.keepIn K (.ref f) = true) (d : DflV K dV dvs) : Fn K x st dvs f (PySem.W.fnOf x x (defArgs st) (defBody st) (defScope st) dV kV doc pm an cdv ct) :=
  ⟨⟨oc, od, dV, kV, doc, pm, an, cdv, ct, osl, rfl, l, c, d, .inl rfl⟩, h⟩
theorem Fn.okN (F : Fn K x st dvs f fd) (S : FnScope N ps (defScope st)) (len : ∀ vs H Q E, sp vs H Q E → vs.length = ps.length)
    (hbody : ∀ (cdv : Value) (A : Around) (outer : List Env) (s : Shared) (H : Hp) (vs : List V) (Q : VK) (E : XK), Room k (A.deeper (envOfC x (defScope st) s.heap.objs.size f cdv)) → sp vs H Q E →
      ∃ t, PSs (cxOf CX0 P w K mg base N x (defScope st) f cdv A outer s H E).nox (defBody st) t ∧ t { nx := fun _ H' => Q .non H', rt := Q } (start N vs) H) : FnOk P w K mg base CX0 (k + 1) f fd ps sp :=
  FunD.ok F S len fun cdv A outer s H vs Q E hr hsp => by
    obtain ⟨t, h, q⟩ := hbody cdv A outer s H vs Q E hr hsp
    exact ⟨t, h.nox, q⟩
theorem Fn.okT (F : Fn K x st dvs f fd) (S : FnScope N ps (defScope st)) (len : ∀ vs H Q E, sp vs H Q E → vs.length = ps.length)
    (hbody : ∀ (cdv : Value) (A : Around) (outer : List Env) (s : Shared) (H : Hp) (vs : List V) (Q : VK) (E : XK), Room k (A.deeper (envOfC x (defScope st) s.heap.objs.size f cdv)) → sp vs H Q E →
      ∃ t, BT (cxOf CX0 P w K mg base N x (defScope st) f cdv A outer s H E).nox (defBody st) t ∧ t { nx := fun _ H' => Q .non H', rt := Q } (start N vs) H) : FnT P w K mg base CX0 (k + 1) f fd ps sp := by
  obtain ⟨oc, od, dV, kV, doc, pm, an, cdv, ct, osl, rfl, lk, hcd, _, _⟩ := F.ex
  refine ⟨len, fun A outer s H args us vs Q E hk hr e0 hb r hsp => ?_⟩
  have hl := len _ _ _ _ hsp
  have KX : K.In s.heap := e0.mod.kin.keeps fun b o e => (e0.bs b o e).1
  have lim : s.heap.NoLimit := e0.mod.nolimit.keeps fun b o e => (e0.bs b o e).1
  have hkind : ∀ y ∈ ps.zip us, (defScope st).names.lookup y.1 = some .local ∨ ((defScope st).names.lookup y.1 = some .cell ∧ ((cellsFrom (s.heap.objs.size + 1) (defScope st).names []).lookup y.1).isSome = true) := fun ⟨n, v⟩ hy => by
    rcases S.par n (List.of_mem_zip hy).1 with q | q
    · exact .inl q
    · exact .inr ⟨q, PySem.W.cellsFrom_some _ _ _ (.inl q)⟩
  refine codeAny_call_function hr.depth (KX _ _ lk) rfl S.co S.gen rfl (PySem.W.codeRec_of KX hcd) (hb _ _ _ _ ?_)
  refine PySem.wpAny_with_toks hk ?_
  refine wpAny_newFunctionEnv_cells S.kind hkind fun env he s1 xx => ?_
  intro k1
  subst he
  refine ⟨lim.keeps xx.toInCall.keep, codeAny_func ?_⟩
  obtain ⟨t, ht, hq⟩ := hbody cdv A outer s H vs Q E (hr.deeper _) hsp
  have I : Inv (cxOf CX0 P w K mg base N x (defScope st) f cdv A outer s H E) [] (start N vs) H s1 := inv_start S hr.hd e0 hl r xx
  refine wpAny_mono (ht.nox.run [] s1 (start N vs) H _ k1 I hq) (fun fl s' hs => ?_) fun e s' hs => hs
  have fin : ∀ {σ' : L2.St} {H' : Hp} {v : V} {u : Value}, Inv (cxOf CX0 P w K mg base N x (defScope st) f cdv A outer s H E) [] σ' H' s' → RelV v u → Q v H' → CE outer P w H s Q u s' :=
    fun {σ' H' v u} J rv q => ⟨v, H', J.os, J.bare, J.base, J.hok, rv, q⟩
  cases fl with
  | ret u =>
    obtain ⟨v, σ', H', J, rv, q⟩ := hs
    exact fin J rv q
  | next =>
    obtain ⟨σ', H', J, q⟩ := hs
    exact fin (v := V.non) (u := Value.none) J rfl q
  | brk =>
    obtain ⟨_, _, _, q⟩ := hs
    exact False.elim q
  | cont =>
    obtain ⟨_, _, _, q⟩ := hs
    exact False.elim q
theorem Fn.okK (F : Fn K x st dvs f fd) (S : FnScope N ps (defScope st)) (len : ∀ vs H Q E, sp vs H Q E → vs.length = ps.length)
    (hbody : ∀ (cdv : Value) (A : Around) (outer : List Env) (s : Shared) (H : Hp) (vs : List V) (Q : VK) (E : XK), Room k (A.deeper (envOfC x (defScope st) s.heap.objs.size f cdv)) → sp vs H Q E →
      ∃ t, BK (cxOf CX0 P w K mg base N x (defScope st) f cdv A outer s H E).nox (defBody st) t ∧ t { nx := fun _ H' => Q .non H', rt := Q } (start N vs) H) : FnK P w K mg base CX0 (k + 1) f fd ps sp := by
  obtain ⟨oc, od, dV, kV, doc, pm, an, cdv, ct, osl, rfl, lk, hcd, _, _⟩ := F.ex
  refine ⟨len, fun A outer s H args us vs Q E hr e0 hb r hsp => ?_⟩
  have hl := len _ _ _ _ hsp
  have KX : K.In s.heap := e0.mod.kin.keeps fun b o e => (e0.bs b o e).1
  have lim : s.heap.NoLimit := e0.mod.nolimit.keeps fun b o e => (e0.bs b o e).1
  have hkind : ∀ y ∈ ps.zip us, (defScope st).names.lookup y.1 = some .local ∨ ((defScope st).names.lookup y.1 = some .cell ∧ ((cellsFrom (s.heap.objs.size + 1) (defScope st).names []).lookup y.1).isSome = true) := fun ⟨n, v⟩ hy => by
    rcases S.par n (List.of_mem_zip hy).1 with q | q
    · exact .inl q
    · exact .inr ⟨q, PySem.W.cellsFrom_some _ _ _ (.inl q)⟩
  refine codeAny_call_function hr.depth (KX _ _ lk) rfl S.co S.gen rfl (PySem.W.codeRec_of KX hcd) (hb _ _ _ _ ?_)
  refine wpAny_newFunctionEnv_cells S.kind hkind fun env he s1 xx => ?_
  subst he
  refine ⟨lim.keeps xx.toInCall.keep, codeAny_func ?_⟩
  obtain ⟨t, ht, hq⟩ := hbody cdv A outer s H vs Q E (hr.deeper _) hsp
  have I : Inv (cxOf CX0 P w K mg base N x (defScope st) f cdv A outer s H E) [] (start N vs) H s1 := inv_start S hr.hd e0 hl r xx
  refine wpAny_mono (ht.nox.run [] s1 (start N vs) H _ I hq) (fun fl s' hs => ?_) fun e s' hs => ?_
  · obtain ⟨kk, hs⟩ := hs
    have fin : ∀ {σ' : L2.St} {H' : Hp} {v : V} {u : Value}, Inv (cxOf CX0 P w K mg base N x (defScope st) f cdv A outer s H E) [] σ' H' s' → RelV v u → Q v H' → ((∃ e : Value, (Except.ok (Flow.ret u) : Result) = .error e) ∨ 1 ≤ s'.toks) ∧ CE outer P w H s Q u s' :=
      fun {σ' H' v u} J rv q => ⟨.inr kk, v, H', J.os, J.bare, J.base, J.hok, rv, q⟩
    cases fl with
    | ret u =>
      obtain ⟨v, σ', H', J, rv, q⟩ := hs
      exact fin J rv q
    | next =>
      obtain ⟨σ', H', J, q⟩ := hs
      have z := fin (v := V.non) (u := Value.none) J rfl q
      exact ⟨.inr kk, z.2⟩
    | brk =>
      obtain ⟨_, _, _, q⟩ := hs
      exact False.elim q
    | cont =>
      obtain ⟨_, _, _, q⟩ := hs
      exact False.elim q
  · exact wpAny_mono hs (fun _ _ z => ⟨.inl ⟨_, rfl⟩, z⟩) (fun _ _ z => ⟨.inl ⟨_, rfl⟩, z⟩)
end

/-! ### further rules: text.replace of written texts, get of a written dict, in a tuple of data -/
section
variable {X : Cx} {o e : Expr} {to te : TE}
def tRepl (y z : Str) (to : TE) : TE := fun σ H Q => to σ H fun x H1 => ∃ a : Str, x = .str a ∧ a.length + (a.length + 1) * z.length ≤ 16777216 ∧ Q (.str (Txt.replace a y z)) H1
theorem et_repl {y z : Str} {j0 j1 : Nat} {c0 c1 apos pos : Pos} (ho : ET X o to) (hyz : (y == z) = false) (hst : starEach [.Constant (.str y) j0 c0, .Constant (.str z) j1 c1] X.env = [(false, eval (.Constant (.str y) j0 c0) X.env), (false, eval (.Constant (.str z) j1 c1) X.env)] := by rfl)
    (hbase : attributeBase o "replace" X.env (eval o X.env) = eval o X.env := by rfl) (hline : (apos.endLine == pos.line) = true := by rfl) :
    ET X (.Call (.Attribute o "replace" apos) [.Constant (.str y) j0 c0, .Constant (.str z) j1 c1] [] pos) (tRepl y z to) := by
  refine ⟨fun pins s σ H Q hk I h => ?_⟩
  refine PySem.Call_method2 hbase hst hline (thnK hk (ho.run pins s σ H _ hk I h) fun v s1 k1 ⟨x, H1, I1, r1, a, ex, hb, q⟩ => ?_)
  subst ex
  obtain ⟨tx, rfl⟩ := r1
  refine ⟨"str", _, PySem.F.plainAttrs_str, PySem.F.slot_str_replace, PySem.F.type_str_replace, typeIs_str _ _ _, (fun _ e => nomatch e), Calls.callWith_builtin rfl (Calls.evalArgs_plain (Calls.spliced_cons (Calls.Constant_str (Calls.spliced_cons (Calls.Constant_str (Calls.spliced_nil ?_))))))⟩
  exact PySem.SC.replace (show s1.toks ≠ 0 by omega) (show s1.toks + 1 ≠ 0 by omega) (show s1.toks ≠ s1.toks + 1 by omega) hyz hb fun t' k => ⟨.str (Txt.replace a y z), H1, I1.tok k, ⟨t', rfl⟩, q⟩
/-- d.get(key) of a written dict with text keys -/
def tKGet (K : PySem.W.Frag) (d : Addr) (to te : TE) : TE := fun σ H Q => to σ H fun x H1 => x = .ref d ∧ te σ H1 fun y H2 => ∃ (z : Str) (r : Option Value) (v : V), y = .str z ∧ PySem.W.nsIn K d z = some r ∧ RelV v (r.getD .none) ∧ Q v H2
theorem pe_kget {d : Addr} {es : Array DictEntry} {n : Nat} {apos cpos : Pos} (D : KDict X.K X.w d es n) (ho : PE X o to) (he : PE X e te) (m : M1 X o "get" apos e cpos) : PE X (.Call (.Attribute o "get" apos) [e] [] cpos) (tKGet X.K d to te) := by
  refine ⟨fun pins s σ H Q I h => ?_⟩
  refine wpAny_Call_method m.base m.few m.line PySem.F.plainAttrs_dict PySem.F.slot_dict_get PySem.F.type_dict_get (thn (ho.run pins s σ H _ I h) fun u s1 ⟨x, H1, I1, rx, ex, q1⟩ => ?_)
  subst ex
  obtain rfl : u = Value.ref d := rx
  refine ⟨kd_type D I1, fun a ea => ?_, ?_⟩
  · cases ea
    exact ⟨_, I1.kIn _ _ D.at_, rfl⟩
  rw [m.trees]
  refine Calls.callWith_builtin rfl (Calls.evalArgs_plain (Calls.spliced_cons (thn (he.run pins s1 σ H1 _ I1 q1) fun iv s2 ⟨y, H2, I2, ry, z, r, v, ey, e, rv, q2⟩ => Calls.spliced_nil ?_)))
  subst ey
  obtain ⟨t, rfl⟩ := ry
  refine call_meetsIn PySem.F.slot_dict_get (kd_type D I2) PySem.F.entry_dict_get (PySem.F.args_dict_get_2 _ _) (meets_dict_get (PySem.strKind X.prog X.w) d (PySem.strKind_is X.prog X.w z t) D.low) ⟨_, PySem.W.mapOf_K (prog := X.prog) I2.kIn D.at_ D.lit, ?_⟩
  rw [PySem.W.find_K D.at_ e]
  exact ⟨v, H2, I2.tok _, rv, q2⟩
/-- x in (.., ..), the items data of any depth -/
def rInT (K : PySem.W.Frag) : R2 := fun x y H Q => ∃ d ds, Dp K H x d ∧ Dp K H y (.tuple ds) ∧ SeqAt.shaped d = true ∧ SeqAt.shaped (.tuple ds) = true ∧ d.depth ≤ 60 ∧ Q (.bl (ds.any fun z => PyData.eqv z d)) H
theorem op_inT (hu : X.A.units + 64 < cLine) : OpR X (compareOp .In) (rInT X.K) := by
  intro pins s σ H x y v u Q I rx ry h
  obtain ⟨d, ds, hd, he, sd, se, dl, q⟩ := h
  obtain ⟨as, r1⟩ := Dp.reads I d x v hd rx
  obtain ⟨bs, r2⟩ := Dp.reads I (.tuple ds) y u he ry
  exact SeqAt.in_tuple_reads r2 r1 (SeqAt.canLay_of_shaped se) (SeqAt.canLay_of_shaped sd) (by omega) ⟨.bl _, H, I, rfl, q⟩
end
section
variable {X : Cx} {a : Expr} {ta : TE}
def tTr (K' : PySem.W.Frag) (ta : TE) : TT := fun σ H Q => ta σ H fun x H1 => ∃ k, TruV K' x H1 k ∧ Q k H1
theorem pt_tr {K' : PySem.W.Frag} (ha : PE X a ta) (hK : X.K = K' := by rfl) (he : ∀ whole, isTrue a X.env whole = (do let v ← whole; standAt a.pos; holding [v] (truthy v)) := by intro _; rfl) : PT X a (tTr K' ta) := by
  subst hK
  exact pt_truth ha he
end

/-! ### the mathematics of the stages, over lists of signs -/
/-- nothing but blanks -/
def isBlank (l : List Nat) : Bool := l.all fun c => c == 32 || c == 9
def MK : List Nat := [60, 66, 76, 65, 78, 75, 76, 73, 78, 69, 62]
def isMark (l : List Nat) : Bool := pre MK l && isBlank (l.drop 11)
def marksOf (w : List Nat) : List Nat := joinL [10] ((spl [10] 0 [] w).map fun l => if isMark l then [] else l)
def blanksOf (g : List Nat) : List Nat := joinL [10] ((spl [10] 0 [] g).map fun l => if isBlank l then [] else l)
def wordsOf (t : List Nat) : List Nat := joinL [32] ((spl [32] 0 [] (t.map fun c => if c == 9 || c == 10 then 32 else c)).filter fun w => !w.isEmpty)
theorem emptyEq (l : List Nat) : l.isEmpty = (l.length == 0) := by cases l <;> rfl

theorem joinL_len (S : List Nat) : ∀ {ps : List (List Nat)}, ps ≠ [] → (joinL S ps).length + S.length = (ps.map (·.length)).sum + ps.length * S.length
  | [], h => absurd rfl h
  | [p], _ => by
    show p.length + S.length = p.length + 0 + (0 + 1) * S.length
    omega
  | p :: q :: r, _ => by
    have ih := joinL_len S (ps := q :: r) (by simp)
    show (p ++ (S ++ joinL S (q :: r))).length + S.length = p.length + ((q :: r).map (·.length)).sum + ((q :: r).length + 1) * S.length
    rw [List.length_append, List.length_append, Nat.succ_mul]
    omega
theorem spl_ne (S : List Nat) : ∀ (k : Nat) (acc l : List Nat), spl S k acc l ≠ []
  | k, acc, [] => by rw [spl_nil]; simp
  | 0, acc, c :: r => by
    cases h : pre S (c :: r) with
    | true => rw [spl_hit h]; simp
    | false => rw [spl_miss h]; exact spl_ne S 0 _ r
  | k + 1, acc, _ :: r => spl_ne S k acc r
theorem small_kind {y : List Nat} (h : y.all (· < 256) = true) (x : Str) : ¬ Builtin.Str.strKind x < Builtin.Str.strKind ⟨y.toArray⟩ := kind_ok (by simpa using h)
theorem splitOf (x : Str) {y : List Nat} (hy : y ≠ []) (h : y.all (· < 256) = true) : (Txt.split x ⟨y.toArray⟩).map tl = spl y 0 [] (tl x) := split_spl x ⟨y.toArray⟩ hy (small_kind h x)
theorem joinL_spl (l : List Nat) {y : List Nat} (hy : y ≠ []) (h : y.all (· < 256) = true) : joinL y (spl y 0 [] l) = l := by
  have e := StrLaws.join_split (⟨l.toArray⟩ : Str) ⟨y.toArray⟩
  have e2 := congrArg tl e
  rw [tl_join, splitOf _ hy h] at e2
  exact e2
/-- of the parts: how long they are together, and how many -/
theorem spl_sizes (l : List Nat) {y : List Nat} (hy : y ≠ []) (h : y.all (· < 256) = true) : ((spl y 0 [] l).map (·.length)).sum ≤ l.length ∧ (spl y 0 [] l).length ≤ l.length + 1 := by
  have e := joinL_len y (spl_ne y 0 [] l)
  rw [joinL_spl l hy h] at e
  have hp : 1 ≤ y.length := List.length_pos_iff.mpr hy
  have hn : 1 ≤ (spl y 0 [] l).length := List.length_pos_iff.mpr (spl_ne y 0 [] l)
  generalize (spl y 0 [] l).length = n at e hn
  generalize ((spl y 0 [] l).map (·.length)).sum = s at e
  obtain ⟨m, rfl⟩ : ∃ m, n = m + 1 := ⟨n - 1, by omega⟩
  rw [Nat.succ_mul] at e
  have hm : m ≤ m * y.length := Nat.le_mul_of_pos_right m hp
  omega
theorem sum_map_le {α : Type} (f g : α → Nat) : ∀ (l : List α), (∀ x ∈ l, f x ≤ g x) → (l.map f).sum ≤ (l.map g).sum
  | [], _ => Nat.le_refl _
  | x :: r, h => by
    have h1 := h x (List.mem_cons_self ..)
    have h2 := sum_map_le f g r fun y hy => h y (List.mem_cons_of_mem _ hy)
    rw [List.map_cons, List.map_cons, List.sum_cons, List.sum_cons]
    omega
theorem map_lines_len (f : List Nat → List Nat) (hf : ∀ l, (f l).length ≤ l.length) (l : List Nat) {y : List Nat} (hy : y ≠ []) (h : y.all (· < 256) = true) : (joinL y ((spl y 0 [] l).map f)).length ≤ l.length := by
  have e := joinL_len y (spl_ne y 0 [] l)
  rw [joinL_spl l hy h] at e
  have e2 := joinL_len y (ps := (spl y 0 [] l).map f) (by simpa using spl_ne y 0 [] l)
  rw [List.length_map, List.map_map] at e2
  have e3 := sum_map_le (fun x => (f x).length) (fun x => x.length) (spl y 0 [] l) fun x _ => hf x
  have e4 : ((spl y 0 [] l).map ((fun x => x.length) ∘ f)).sum = ((spl y 0 [] l).map fun x => (f x).length).sum := rfl
  omega
theorem marks_len (w : List Nat) : (marksOf w).length ≤ w.length := map_lines_len _ (fun l => by split <;> simp) w (by simp) (by decide)
theorem blanks_len (w : List Nat) : (blanksOf w).length ≤ w.length := map_lines_len _ (fun l => by split <;> simp) w (by simp) (by decide)
theorem filter_sum (p : List Nat → Bool) : ∀ ps : List (List Nat), ((ps.filter p).map (·.length)).sum ≤ (ps.map (·.length)).sum
  | [] => Nat.le_refl _
  | x :: r => by
    have ih := filter_sum p r
    rw [List.filter_cons]
    split
    · rw [List.map_cons, List.map_cons, List.sum_cons, List.sum_cons]
      omega
    · rw [List.map_cons, List.sum_cons]
      omega
theorem words_len (t : List Nat) : (wordsOf t).length ≤ t.length := by
  unfold wordsOf
  generalize hu : (t.map fun c => if c == 9 || c == 10 then 32 else c) = u
  have lu : u.length = t.length := by rw [← hu, List.length_map]
  have e := joinL_len [32] (spl_ne [32] 0 [] u)
  rw [joinL_spl u (by simp) (by decide)] at e
  have l1 : ([32] : List Nat).length = 1 := rfl
  generalize hq : (spl [32] 0 [] u).filter (fun w => !w.isEmpty) = q
  have hs : (q.map (·.length)).sum ≤ ((spl [32] 0 [] u).map (·.length)).sum := by rw [← hq]; exact filter_sum _ _
  have hl : q.length ≤ (spl [32] 0 [] u).length := by rw [← hq]; exact List.length_filter_le _ _
  cases q with
  | nil => exact Nat.zero_le _
  | cons a r =>
    have e2 := joinL_len [32] (ps := a :: r) (by simp)
    rw [l1] at e e2
    omega

/-! ### stripping leaves nothing just of a blank text -/
theorem strip_blank (x : Str) (goes : Nat → Bool) : ((Txt.stripBy goes true true x).length = 0) ↔ (tl x).all goes = true := by
  rw [stripBy_eq]
  obtain ⟨h1, h2, h3⟩ := lo_facts goes x
  obtain ⟨g1, g2, g3, g4⟩ := hi_facts goes x (stripLo goes true x) h1
  have hl : (Builtin.Str.strSub x (stripLo goes true x) (stripHi goes true x (stripLo goes true x))).length = stripHi goes true x (stripLo goes true x) - stripLo goes true x := by
    rw [len_tl, tl_strSub, List.length_take, List.length_drop, ← len_tl]
    omega
  rw [hl]
  have get : ∀ k, k < x.length → x.cps.getD k 0 ∈ tl x := fun k hk => by
    have hk' : k < x.cps.size := hk
    simp [tl, Array.getD, hk']
  constructor
  · intro h
    rw [List.all_eq_true]
    intro c hc
    obtain ⟨k, hk, e⟩ := List.getElem_of_mem hc
    have hkx : k < x.length := by rw [len_tl]; exact hk
    have e2 : x.cps.getD k 0 = c := by
      have hk' : k < x.cps.size := hkx
      rw [← e]
      simp [tl, Array.getD, hk']
    rw [← e2]
    by_cases hk2 : k < stripLo goes true x
    · exact h2 k hk2
    · exact g3 k (by omega) hkx
  · intro h
    rw [List.all_eq_true] at h
    rcases h3 with e | e
    · omega
    · by_cases hlt : stripLo goes true x < x.length
      · rw [h _ (get _ hlt)] at e
        cases e
      · omega
theorem blank_strip (x : Str) : ((Txt.stripChars x ⟨#[32, 9]⟩).length = 0) ↔ isBlank (tl x) = true := by
  unfold Txt.stripChars
  rw [strip_blank]
  unfold isBlank
  have e : (fun c => (#[32, 9] : Array Nat).contains c) = fun c => (c == 32 || c == 9) := by
    funext c
    rw [Bool.eq_iff_iff, Array.contains_iff_mem]
    simp
  show (tl x).all (fun c => (#[32, 9] : Array Nat).contains c) = true ↔ _
  rw [e]
theorem starts_pre (x : Str) {y : List Nat} (hy : y ≠ []) : Txt.startswith x ⟨y.toArray⟩ = pre y (tl x) := by
  unfold Txt.startswith
  rw [Nat.zero_add]
  have h := at_iff (x := x) (y := ⟨y.toArray⟩) hy 0
  rw [List.drop_zero] at h
  unfold StrLaws.At at h
  rw [Nat.zero_add] at h
  rw [Bool.eq_iff_iff, Bool.and_eq_true, decide_eq_true_eq]
  exact h

/-! ### the pieces of an ellipsis, in order -/
/-- the first place from a on, among n, at which p holds -/
def firstFrom (p : Nat → Bool) : Nat → Nat → Option Nat
  | 0, _ => none
  | n + 1, a => if p a = true then some a else firstFrom p n (a + 1)
theorem firstFrom_some {p : Nat → Bool} : ∀ {n a i : Nat}, firstFrom p n a = some i → a ≤ i ∧ i < a + n ∧ p i = true ∧ ∀ k, a ≤ k → k < i → p k = false
  | 0, a, i, h => by cases h
  | n + 1, a, i, h => by
    unfold firstFrom at h
    by_cases hp : p a = true
    · rw [if_pos hp] at h
      cases h
      exact ⟨Nat.le_refl _, by omega, hp, fun k h1 h2 => by omega⟩
    · rw [if_neg hp] at h
      obtain ⟨h1, h2, h3, h4⟩ := firstFrom_some h
      refine ⟨by omega, by omega, h3, fun k k1 k2 => ?_⟩
      by_cases e : k = a
      · rw [e]
        cases z : p a with
        | true => exact absurd z hp
        | false => rfl
      · exact h4 k (by omega) k2
theorem firstFrom_none {p : Nat → Bool} : ∀ {n a : Nat}, firstFrom p n a = none → ∀ i, a ≤ i → i < a + n → p i = false
  | 0, a, _, i, h1, h2 => by omega
  | n + 1, a, h, i, h1, h2 => by
    unfold firstFrom at h
    by_cases hp : p a = true
    · rw [if_pos hp] at h
      cases h
    · rw [if_neg hp] at h
      by_cases e : i = a
      · rw [e]
        cases z : p a with
        | true => exact absurd z hp
        | false => rfl
      · exact firstFrom_none h i (by omega) (by omega)
theorem firstFrom_eq {p : Nat → Bool} {n a i : Nat} (h1 : a ≤ i) (h2 : i < a + n) (h3 : p i = true) (h4 : ∀ k, a ≤ k → k < i → p k = false) : firstFrom p n a = some i := by
  cases h : firstFrom p n a with
  | none => rw [firstFrom_none h i h1 h2] at h3; cases h3
  | some j =>
    obtain ⟨g1, g2, g3, g4⟩ := firstFrom_some h
    rcases Nat.lt_trichotomy i j with z | z | z
    · rw [g4 i h1 z] at h3; cases h3
    · rw [z]
    · rw [h4 j g1 z] at g3; cases g3
theorem firstFrom_no {p : Nat → Bool} {n a : Nat} (h : ∀ i, a ≤ i → i < a + n → p i = false) : firstFrom p n a = none := by
  cases e : firstFrom p n a with
  | none => rfl
  | some j =>
    obtain ⟨g1, g2, g3, _⟩ := firstFrom_some e
    rw [h j g1 g2] at g3
    cases g3
/-- S stands at i, and ends at e or ahead of it -/
def fitsAt (S g : List Nat) (e i : Nat) : Bool := decide (i + S.length ≤ e) && pre S (g.drop i)
def chain (g : List Nat) (e : Nat) : List (List Nat) → Nat → Option Nat
  | [], a => some a
  | S :: r, a => match firstFrom (fitsAt S g e) (e + 1 - a) a with
    | none => none
    | some i => chain g e r (i + S.length)
def free (g : List Nat) : List (List Nat) → Nat → Option Nat
  | [], a => some a
  | S :: r, a => match firstFrom (fun i => pre S (g.drop i)) (g.length + 1 - a) a with
    | none => none
    | some i => free g r (i + S.length)
theorem free_le (g : List Nat) : ∀ {ps : List (List Nat)} {a m : Nat}, free g ps a = some m → a ≤ m
  | [], a, m, h => by cases h; exact Nat.le_refl _
  | S :: r, a, m, h => by
    unfold free at h
    cases e : firstFrom (fun i => pre S (g.drop i)) (g.length + 1 - a) a with
    | none => rw [e] at h; cases h
    | some i =>
      rw [e] at h
      have h1 := (firstFrom_some e).1
      have h2 := free_le g h
      omega
theorem chain_free (g : List Nat) (e : Nat) (he : e ≤ g.length) : ∀ (ps : List (List Nat)) (a : Nat), (∃ m, chain g e ps a = some m ∧ m ≤ e) ↔ ∃ m, free g ps a = some m ∧ m ≤ e
  | [], a => Iff.rfl
  | S :: r, a => by
    unfold chain free
    cases h : firstFrom (fun i => pre S (g.drop i)) (g.length + 1 - a) a with
    | none =>
      have h0 := firstFrom_none h
      have e1 : firstFrom (fitsAt S g e) (e + 1 - a) a = none := firstFrom_no fun i h1 h2 => by
        have h3 : pre S (g.drop i) = false := h0 i h1 (by omega)
        unfold fitsAt
        rw [h3, Bool.and_false]
      rw [e1]
    | some i =>
      obtain ⟨g1, g2, g3, g4⟩ := firstFrom_some h
      by_cases hi : i + S.length ≤ e
      · have e1 : firstFrom (fitsAt S g e) (e + 1 - a) a = some i := by
          refine firstFrom_eq g1 (by omega) ?_ fun k k1 k2 => ?_
          · unfold fitsAt
            rw [g3, decide_eq_true hi]
            rfl
          · have := g4 k k1 k2
            unfold fitsAt
            rw [this, Bool.and_false]
        rw [e1]
        exact chain_free g e he r (i + S.length)
      · have e1 : firstFrom (fitsAt S g e) (e + 1 - a) a = none := firstFrom_no fun k k1 k2 => by
          unfold fitsAt
          by_cases hk : k < i
          · have := g4 k k1 hk
            rw [this, Bool.and_false]
          · rw [decide_eq_false (by omega)]
            rfl
        rw [e1]
        constructor
        · rintro ⟨m, h1, _⟩
          cases h1
        · rintro ⟨m, h1, h2⟩
          have := free_le g h1
          omega
/-- an end -/
def ends (S g : List Nat) : Bool := decide (S.length ≤ g.length) && pre S (g.drop (g.length - S.length))
/-- a first piece, others, a last one, as the program looks for them -/
def inOrder (f : List Nat) (ps : List (List Nat)) (z g : List Nat) : Bool :=
  pre f g && (ends z g && (match chain g (g.length - z.length) ps f.length with | none => false | some a => decide (a ≤ g.length - z.length)))
theorem chain_app (g : List Nat) (e : Nat) : ∀ (ps qs : List (List Nat)) (a : Nat), chain g e (ps ++ qs) a = (chain g e ps a).bind fun b => chain g e qs b
  | [], qs, a => rfl
  | S :: r, qs, a => by
    show (match firstFrom (fitsAt S g e) (e + 1 - a) a with | none => none | some i => chain g e (r ++ qs) (i + S.length)) = (match firstFrom (fitsAt S g e) (e + 1 - a) a with | none => none | some i => chain g e r (i + S.length)).bind fun b => chain g e qs b
    cases firstFrom (fitsAt S g e) (e + 1 - a) a with
    | none => rfl
    | some i => exact chain_app g e r qs (i + S.length)
theorem free_app (g : List Nat) : ∀ (ps qs : List (List Nat)) (a : Nat), free g (ps ++ qs) a = (free g ps a).bind fun b => free g qs b
  | [], qs, a => rfl
  | S :: r, qs, a => by
    show (match firstFrom (fun i => pre S (g.drop i)) (g.length + 1 - a) a with | none => none | some i => free g (r ++ qs) (i + S.length)) = (match firstFrom (fun i => pre S (g.drop i)) (g.length + 1 - a) a with | none => none | some i => free g r (i + S.length)).bind fun b => free g qs b
    cases firstFrom (fun i => pre S (g.drop i)) (g.length + 1 - a) a with
    | none => rfl
    | some i => exact free_app g r qs (i + S.length)
/-- the same by all places at which each piece may end -/
def inOrderF (f : List Nat) (ps : List (List Nat)) (z g : List Nat) : Bool :=
  pre f g && (match free g ps f.length with | none => false | some m => decide (m + z.length ≤ g.length) && pre z (g.drop (g.length - z.length)))
theorem inOrder_eq (f : List Nat) (ps : List (List Nat)) (z g : List Nat) : inOrder f ps z g = inOrderF f ps z g := by
  unfold inOrder inOrderF ends
  cases hf : pre f g with
  | false => rfl
  | true =>
    show (decide (z.length ≤ g.length) && pre z (g.drop (g.length - z.length)) && (match chain g (g.length - z.length) ps f.length with | none => false | some a => decide (a ≤ g.length - z.length))) = (match free g ps f.length with | none => false | some m => decide (m + z.length ≤ g.length) && pre z (g.drop (g.length - z.length)))
    have key := chain_free g (g.length - z.length) (Nat.sub_le _ _) ps f.length
    rw [Bool.eq_iff_iff]
    constructor
    · intro h
      rw [Bool.and_eq_true, Bool.and_eq_true, decide_eq_true_eq] at h
      obtain ⟨⟨h1, h2⟩, h3⟩ := h
      have h4 : ∃ m, chain g (g.length - z.length) ps f.length = some m ∧ m ≤ g.length - z.length := by
        cases e : chain g (g.length - z.length) ps f.length with
        | none => rw [e] at h3; cases h3
        | some a =>
          rw [e] at h3
          exact ⟨a, rfl, of_decide_eq_true h3⟩
      obtain ⟨m, e, hm⟩ := key.mp h4
      rw [e]
      show (decide (m + z.length ≤ g.length) && pre z (g.drop (g.length - z.length))) = true
      rw [h2, decide_eq_true (by omega)]
      rfl
    · intro h
      cases e : free g ps f.length with
      | none => rw [e] at h; cases h
      | some m =>
        rw [e] at h
        have h' : (decide (m + z.length ≤ g.length) && pre z (g.drop (g.length - z.length))) = true := h
        rw [Bool.and_eq_true, decide_eq_true_eq] at h'
        obtain ⟨a, ea, ha⟩ := key.mpr ⟨m, e, by omega⟩
        rw [ea, h'.2, decide_eq_true (by omega)]
        show (true && true && decide (a ≤ g.length - z.length)) = true
        rw [decide_eq_true ha]
        rfl
/-! ### find within two places -/
theorem at_any {x y : Str} {hi i : Nat} (hh : hi ≤ x.length) : StrLaws.At x y hi i ↔ fitsAt (tl y) (tl x) hi i = true := by
  have hl := len_tl y
  unfold StrLaws.At fitsAt
  rw [StrLaws.subAt_eq, hl, Bool.and_eq_true, decide_eq_true_eq]
  rfl
theorem occ_within (x y : Str) (lo hi : Nat) :
    (Builtin.Str.occurrences x y lo hi 1 = [] ∧ ∀ i, lo ≤ i → ¬ StrLaws.At x y hi i) ∨
    ∃ i r, Builtin.Str.occurrences x y lo hi 1 = i :: r ∧ lo ≤ i ∧ StrLaws.At x y hi i ∧ ∀ k, lo ≤ k → k < i → ¬ StrLaws.At x y hi k := by
  rw [StrLaws.occ_eq]
  rcases StrLaws.occ_first x y hi 1 (Nat.le_refl _) (List.range' lo (hi + 1 - lo)) lo (fun i hi => by have := List.mem_range'_1.mp hi; omega) with ⟨h0, hn⟩ | ⟨pr, a, post, e, h0, ha, hn⟩
  · refine .inl ⟨by rw [h0], fun i hlo hi' => ?_⟩
    exact hn i (by have := hi'.1; exact List.mem_range'_1.mpr ⟨hlo, by omega⟩) hi'
  · have ha1 : a ∈ List.range' lo (hi + 1 - lo) := by rw [e]; simp
    have hl : lo ≤ a := (List.mem_range'_1.mp ha1).1
    refine .inr ?_
    cases hr : (forIn (List.range' lo (hi + 1 - lo)) ((#[] : Array Nat), lo) (StrLaws.occBody x y hi 1)).run.fst.toList with
    | nil =>
      rw [← Array.getElem?_toList, hr] at h0
      cases h0
    | cons b r =>
      rw [← Array.getElem?_toList, hr] at h0
      have eb : b = a := Option.some.inj h0
      subst eb
      refine ⟨b, r, rfl, hl, ha, fun k k1 k2 hk => ?_⟩
      have hk1 : k ∈ List.range' lo (hi + 1 - lo) := List.mem_range'_1.mpr ⟨k1, by have := hk.1; omega⟩
      rw [e] at hk1
      rcases List.mem_append.mp hk1 with z | z
      · exact hn k z hk
      · have hp : (List.range' lo (hi + 1 - lo)).Pairwise (· < ·) := List.pairwise_lt_range'
        rw [e] at hp
        have hq := (List.pairwise_append.mp hp).2.1
        rcases List.mem_cons.mp z with z | z
        · omega
        · have := (List.pairwise_cons.mp hq).1 k z
          omega
theorem find_first (x y : Str) (lo hi : Nat) (hh : hi ≤ x.length) (hlo : lo ≤ x.length) : Txt.findIn x y (lo : Int) (hi : Int) = (match firstFrom (fitsAt (tl y) (tl x) hi) (hi + 1 - lo) lo with | some i => (i : Int) | none => -1) := by
  unfold Txt.findIn
  have e1 : fromIndex x.length (lo : Int) = lo := by
    unfold fromIndex
    rw [if_neg (by omega)]
    omega
  have e2 : toIndexW x.length (hi : Int) = hi := by
    unfold toIndexW
    rw [if_neg (by omega)]
    omega
  rw [e1, e2]
  rcases occ_within x y lo hi with ⟨h0, hn⟩ | ⟨i, r, h0, h1, h2, h3⟩
  · rw [h0, firstFrom_no fun i i1 i2 => ?_]
    cases z : fitsAt (tl y) (tl x) hi i with
    | false => rfl
    | true => exact absurd ((at_any hh).mpr z) (hn i i1)
  · rw [h0, firstFrom_eq h1 ?_ ((at_any hh).mp h2) fun k k1 k2 => ?_]
    · have := h2.1
      omega
    · cases z : fitsAt (tl y) (tl x) hi k with
      | false => rfl
      | true => exact absurd ((at_any hh).mpr z) (h3 k k1 k2)

section
variable {X : Cx}
/-- a list or a tuple, walked -/
def SqA (K : PySem.W.Frag) (H : Hp) (a : Addr) (xs : List V) : Prop := SqL K H a xs ∨ SqT K H a xs
def iSeq (K : PySem.W.Frag) (tl : TE) : TI := fun σ H R => tl σ H fun x H1 => ∃ a, x = .ref a ∧ ((∃ xs, SqL K H1 a xs) ∧ R (Itl K a) H1 ∨ (∃ xs, SqT K H1 a xs) ∧ R (Itt K a) H1)
theorem pi_seq {tg l : Expr} {tl : TE} (hl : PE X l tl) : PI X tg l (iSeq X.K tl) := by
  refine ⟨fun pins s σ H R I h => ?_⟩
  refine thn (hl.run pins s σ H _ I h) fun v s1 ⟨x, H1, I1, r1, q1⟩ => ?_
  obtain ⟨a, e, q⟩ := q1
  subst e
  cases r1
  rcases q with ⟨⟨xs, hq⟩, q⟩ | ⟨⟨xs, hq⟩, q⟩
  · obtain ⟨its, rv, p, hz⟩ := I1.list hq
    refine wpAny_pyIter_list p.isList ?_
    refine ⟨s1.heap.objs.size, [s1.heap.objs.size], _, _, H1, rfl, I1.kept (t' := s1.toks) fun b o e => Heap.get?_push_of_some _ e, turn_list a _, ⟨_, Heap.get?_push_size _ rfl, rfl, rfl⟩, fun b hb => ?_, q⟩
    have e : b = s1.heap.objs.size := by simpa using hb
    subst e
    exact I1.fpOk (Nat.le_refl _) (I1.hok.fresh (Nat.le_refl _))
  · obtain ⟨its, rv, p, hz⟩ := I1.tuple hq
    refine wpAny_pyIter_tuple (show s1.heap.IsTuple a its.toArray from p) ?_
    refine ⟨s1.heap.objs.size, [s1.heap.objs.size], _, _, H1, rfl, I1.kept (t' := s1.toks) fun b o e => Heap.get?_push_of_some _ e, turn_tuple a _, ⟨_, Heap.get?_push_size _ rfl, rfl, rfl⟩, fun b hb => ?_, q⟩
    have e : b = s1.heap.objs.size := by simpa using hb
    subst e
    exact I1.fpOk (Nat.le_refl _) (I1.hok.fresh (Nat.le_refl _))
end
theorem flat_strs (l : List Str) : (l.map V.str).all flatV = true := by
  rw [List.all_map]
  exact List.all_eq_true.mpr fun _ _ => rfl
/-- a text among texts -/
def has (x : Str) (l : List Str) : Bool := l.any fun y => y == x
theorem inV_str (x : Str) (l : List Str) : inV (.str x) (l.map V.str) = has x l := by
  unfold inV has
  rw [List.any_map]
  rfl
theorem has_iff {x : Str} {l : List Str} : has x l = true ↔ x ∈ l := by
  unfold has
  rw [List.any_eq_true]
  constructor
  · rintro ⟨y, hy, e⟩
    rw [← eq_of_beq e]
    exact hy
  · intro h
    exact ⟨x, h, beq_self_eq_true x⟩
section
variable {P : Program} {w : World} {K : PySem.W.Frag} {mg : Str → Option Value} {base : Heap}
def sp_is_flag : Sp := fun vs H Q _ => ∃ x : Str, vs = [.str x] ∧ Q (.bl (has x v_FLAGS)) H
theorem ok_is_flag {f : Addr} {fd : FuncData} {dvs : List V} (F : Fn K "is_flag" s_is_flag dvs f fd) (m_isinstance : mg "isinstance" = none) (m_str : mg "str" = none) {a_FLAGS : Addr} (c_FLAGS : mg "FLAGS" = some (.ref a_FLAGS)) (q_FLAGS : ∀ H, SqT K H a_FLAGS (v_FLAGS.map V.str)) : FnOk P w K mg base CX0 1 f fd ["thing"] (sp_is_flag) := by
  refine Fn.okN F sc_is_flag (fun vs H Q E h => ?_) (fun cdv A outer s H vs Q E hr h => ?_)
  · obtain ⟨_, rfl, _⟩ := h
    rfl
  · obtain ⟨x, rfl, k⟩ := h
    refine ⟨_, (pss_one (ps_ret (pe_and (pe_callB call_isi (by rfl) m_isinstance (by decide +kernel) (pa_cons (pv 0) (pa_cons (pe_bltn (v := .ty "str") (by rfl) m_str (by decide +kernel) rfl) pa_nil))) (pe_one (pe_cmpR op_in_seq (pv 0) (pe_glob (v := .ref a_FLAGS) rfl c_FLAGS rfl) rfl))))), ?_⟩
    refine ⟨_, rfl, _, _, _, _, true, rfl, .ty "str", .base (.str x), kit_ty (by decide +kernel), true, rfl, ?_⟩
    refine ⟨_, rfl, a_FLAGS, _, rfl, .inr (q_FLAGS H), rfl, flat_strs _, ?_⟩
    show Q (.bl (inV (.str x) (v_FLAGS.map V.str))) H
    rw [inV_str]
    exact k
/-- flags as they may be passed: a list or a tuple of flags -/
def sp_require_flags (K : PySem.W.Frag) : Sp := fun vs H Q _ => ∃ (p : Addr) (xs : List Str), vs = [.ref p] ∧ SqA K H p (xs.map V.str) ∧ (∀ x ∈ xs, has x v_FLAGS = true) ∧ Q .non H
theorem ok_require_flags {f : Addr} {fd : FuncData} {dvs : List V} (F : Fn K "require_flags" s_require_flags dvs f fd) (O_is_flag : Own P w K mg base "is_flag" 1 ["thing"] [] (sp_is_flag)) : FnOk P w K mg base CX0 2 f fd ["flags"] (sp_require_flags K) := by
  refine Fn.okN F sc_require_flags (fun vs H Q E h => ?_) (fun cdv A outer s H vs Q E hr h => ?_)
  · obtain ⟨_, _, rfl, _⟩ := h
    rfl
  · obtain ⟨p, xs, rfl, hp, hx, k⟩ := h
    refine ⟨_, (pss_one (ps_for PassesOwn.never rfl (pi_seq (pv 0)) (pg_name (i := 1) sc_require_flags.nd rfl (.inl rfl))
          (pss_one (ps_if (pt_not (pt_val (pe_own O_is_flag (hr.mono (by decide)) (by rfl) (pa_cons (pv 1) pa_nil))))
                (pss_one ps_never)
                pss_nil)))), ?_⟩
    have turn : ∀ (D : Ends) (i : Nat) (v : V) (σ : L2.St) (H1 : Hp), (xs.map V.str)[i]? = some v → (∃ v1 : Option V, σ = [some (.ref p), v1] ∧ H1 = H) → ∃ z : Str, v = .str z ∧ has z v_FLAGS = true := by
      intro D i v σ H1 hv _
      rw [List.getElem?_map] at hv
      cases e : xs[i]? with
      | none =>
        rw [e] at hv
        cases hv
      | some z =>
        rw [e] at hv
        exact ⟨z, (Option.some.inj hv).symm, hx z (List.mem_of_getElem? e)⟩
    refine ⟨_, rfl, p, rfl, ?_⟩
    rcases hp with hp | hp
    · refine .inl ⟨⟨_, hp⟩, for_list (K := K) (a := p) (xs := xs.map V.str) (fun i σ H1 => ∃ v1 : Option V, σ = [some (.ref p), v1] ∧ H1 = H) ⟨none, rfl, rfl⟩ (fun i σ H1 _ h1 => by obtain ⟨_, _, rfl⟩ := h1; exact hp) ?_ ?_⟩
      · rintro i v σ H1 hv ⟨v1, rfl, rfl⟩
        obtain ⟨z, rfl, hz⟩ := turn { nx := fun _ _ => True, rt := fun _ _ => True, bk := fun _ _ => True, ct := fun _ _ => True } i v _ H1 hv ⟨v1, rfl, rfl⟩
        refine ⟨_, rfl, z, rfl, _, rfl, ?_⟩
        rw [hz]
        exact iteF ⟨_, rfl, rfl⟩
      · rintro σ H1 ⟨v1, rfl, rfl⟩
        exact k
    · refine .inr ⟨⟨_, hp⟩, for_tup (K := K) (a := p) (xs := xs.map V.str) (fun i σ H1 => ∃ v1 : Option V, σ = [some (.ref p), v1] ∧ H1 = H) ⟨none, rfl, rfl⟩ (fun i σ H1 _ h1 => by obtain ⟨_, _, rfl⟩ := h1; exact hp) ?_ ?_⟩
      · rintro i v σ H1 hv ⟨v1, rfl, rfl⟩
        obtain ⟨z, rfl, hz⟩ := turn { nx := fun _ _ => True, rt := fun _ _ => True, bk := fun _ _ => True, ct := fun _ _ => True } i v _ H1 hv ⟨v1, rfl, rfl⟩
        refine ⟨_, rfl, z, rfl, _, rfl, ?_⟩
        rw [hz]
        exact iteF ⟨_, rfl, rfl⟩
      · rintro σ H1 ⟨v1, rfl, rfl⟩
        exact k
def sp_is_blank : Sp := fun vs H Q _ => ∃ x : Str, vs = [.str x] ∧ x.length ≤ 1000000 ∧ Q (.bl (isBlank (tl x))) H
theorem ok_is_blank {f : Addr} {fd : FuncData} {dvs : List V} (F : Fn K "is_blank" s_is_blank dvs f fd) {t_BLANKS : Tok} (c_BLANKS : mg "BLANKS" = some (.str " \t" t_BLANKS)) : FnOk P w K mg base CX0 1 f fd ["line"] (sp_is_blank) := by
  refine Fn.okN F sc_is_blank (fun vs H Q E h => ?_) (fun cdv A outer s H vs Q E hr h => ?_)
  · obtain ⟨_, rfl, _⟩ := h
    rfl
  · obtain ⟨x, rfl, hx, k⟩ := h
    refine ⟨_, (pss_one (ps_ret (pe_notT (pe_m1 PySem.F.slot_str_strip PySem.F.type_str_strip mt_stripChars (pv 0) (pe_glob (v := .str " \t") rfl c_BLANKS ⟨_, rfl⟩))))), ?_⟩
    have e : (" \t" : Str) = ⟨#[32, 9]⟩ := ext_tl (by decide +kernel)
    refine ⟨_, rfl, ⟨_, rfl⟩, x, " \t", rfl, rfl, line_of hx, _, ⟨?_, rfl⟩, ?_⟩
    · exact Nat.le_trans (len_stripBy _ _ _ _) (line_of hx)
    · rw [e]
      have hb := blank_strip x
      cases h : isBlank (tl x) with
      | true =>
        rw [h] at k
        rw [show (((Txt.stripChars x ⟨#[32, 9]⟩).length : Int) != 0) = false by rw [hb.mpr h]; rfl]
        exact k
      | false =>
        rw [h] at k
        have hne : (Txt.stripChars x ⟨#[32, 9]⟩).length ≠ 0 := fun z => by
          rw [hb.mp z] at h
          cases h
        rw [show (((Txt.stripChars x ⟨#[32, 9]⟩).length : Int) != 0) = true by
          rw [bne_iff_ne]
          omega]
        exact k
end

/-! ### all stages -/
def DT : List Nat := [46, 46, 46]
def byPieces (w g : List Nat) : Bool := match spl DT 0 [] w with
  | [] => false
  | f :: r => if r.isEmpty = true then false else inOrder f r.dropLast (r.getLastD []) g
def truth (w g : List Nat) : Bool := (w == [49, 10] && g == [84, 114, 117, 101, 10]) || (w == [48, 10] && g == [70, 97, 108, 115, 101, 10])
def shownW (bl nw : Bool) (w : List Nat) : List Nat :=
  if nw = true then wordsOf (if bl = true then w else marksOf w) else if bl = true then w else marksOf w
def shownG (bl nw : Bool) (g : List Nat) : List Nat :=
  if nw = true then wordsOf (if bl = true then g else blanksOf g) else if bl = true then g else blanksOf g
def lets (w g : List Nat) (t1 bl nw el : Bool) : Bool :=
  if w = g then true else if (!t1 && truth w g) = true then true else
  if shownW bl nw w = shownG bl nw g then true else el && byPieces (shownW bl nw w) (shownG bl nw g)
def letsF (w g : List Nat) (xs : List Str) : Bool := lets w g (has "DONT_ACCEPT_TRUE_FOR_1" xs) (has "DONT_ACCEPT_BLANKLINE" xs) (has "NORMALIZE_WHITESPACE" xs) (has "ELLIPSIS" xs)
theorem dt_eq : ("..." : Str) = ⟨DT.toArray⟩ := ext_tl (by decide +kernel)
theorem spl_two {S : List Nat} (hS : S ≠ []) : ∀ (l acc : List Nat), 1 < (spl S 0 acc l).length ↔ ∃ i, pre S (l.drop i) = true
  | [], acc => by
    rw [spl_nil]
    constructor
    · intro h
      exact absurd h (by simp)
    · rintro ⟨i, h⟩
      rw [List.drop_nil, pre_nil hS] at h
      cases h
  | c :: r, acc => by
    cases h : pre S (c :: r) with
    | true =>
      rw [spl_hit h]
      refine ⟨fun _ => ⟨0, h⟩, fun _ => ?_⟩
      have := List.length_pos_iff.mpr (spl_ne S (S.length - 1) [] r)
      rw [List.length_cons]
      omega
    | false =>
      rw [spl_miss h, spl_two hS r (acc ++ [c])]
      constructor
      · rintro ⟨i, e⟩
        exact ⟨i + 1, e⟩
      · rintro ⟨i, e⟩
        cases i with
        | zero => rw [List.drop_zero, h] at e; cases e
        | succ i => exact ⟨i, e⟩
theorem dots_in (w : Str) : (!(Builtin.Str.occurrences w ⟨DT.toArray⟩ 0 w.length 1).isEmpty) = decide (1 < (spl DT 0 [] (tl w)).length) := by
  rw [Bool.eq_iff_iff, StrLaws.found_iff, decide_eq_true_eq, spl_two (by decide)]
  constructor
  · rintro ⟨i, h⟩
    exact ⟨i, (at_iff (x := w) (y := ⟨DT.toArray⟩) (by decide) i).mp h⟩
  · rintro ⟨i, h⟩
    exact ⟨i, (at_iff (x := w) (y := ⟨DT.toArray⟩) (by decide) i).mpr h⟩
theorem three_parts {α : Type} : ∀ {l : List α}, 1 < l.length → ∃ f inner z, l = f :: (inner ++ [z])
  | [], h => by simp at h
  | [_], h => by simp at h
  | a :: b :: r, _ => ⟨a, (b :: r).dropLast, (b :: r).getLast (List.cons_ne_nil _ _), by rw [List.dropLast_concat_getLast]⟩
theorem byPieces_parts {w g : List Nat} {f z : Str} {inner : List Str} (h : spl DT 0 [] w = (f :: (inner ++ [z])).map tl) : byPieces w g = inOrder (tl f) (inner.map tl) (tl z) g := by
  unfold byPieces
  rw [h, List.map_cons, List.map_append]
  show (if (inner.map tl ++ [tl z]).isEmpty = true then false else inOrder (tl f) (inner.map tl ++ [tl z]).dropLast ((inner.map tl ++ [tl z]).getLastD []) g) = _
  rw [if_neg (by simp), List.dropLast_concat]
  congr 1
  simp
theorem byPieces_one {w g : List Nat} (h : ¬ 1 < (spl DT 0 [] w).length) : byPieces w g = false := by
  unfold byPieces
  cases e : spl DT 0 [] w with
  | nil => rfl
  | cons f r =>
    rw [e] at h
    cases r with
    | nil => rfl
    | cons a r => exact absurd (by simp) h
theorem shownW_len : ∀ (bl nw : Bool) (w : List Nat), (shownW bl nw w).length ≤ w.length
  | false, false, w => marks_len w
  | false, true, w => Nat.le_trans (words_len (marksOf w)) (marks_len w)
  | true, false, w => Nat.le_refl _
  | true, true, w => words_len w
theorem shownG_len : ∀ (bl nw : Bool) (w : List Nat), (shownG bl nw w).length ≤ w.length
  | false, false, w => blanks_len w
  | false, true, w => Nat.le_trans (words_len (blanksOf w)) (blanks_len w)
  | true, false, w => Nat.le_refl _
  | true, true, w => words_len w
theorem dec_strs (x y : Str) : decide (V.str x = V.str y) = decide (tl x = tl y) := by
  rw [Bool.eq_iff_iff, decide_eq_true_eq, decide_eq_true_eq]
  exact ⟨fun h => congrArg tl (V.str.inj h), fun h => congrArg V.str (ext_tl h)⟩

theorem truth_get (w g : Str) : decide (v_TRUTHS w = .str g) = truth (tl w) (tl g) := by
  have e1 : tl ("1\n" : Str) = [49, 10] := by decide +kernel
  have e2 : tl ("0\n" : Str) = [48, 10] := by decide +kernel
  have e3 : tl ("True\n" : Str) = [84, 114, 117, 101, 10] := by decide +kernel
  have e4 : tl ("False\n" : Str) = [70, 97, 108, 115, 101, 10] := by decide +kernel
  unfold v_TRUTHS truth
  by_cases h1 : w = "1\n"
  · subst h1
    rw [if_pos rfl, dec_strs, e1, e3]
    by_cases hg : tl g = [84, 114, 117, 101, 10]
    · rw [hg]
      decide
    · rw [decide_eq_false fun z => hg z.symm, beq_eq_false_iff_ne.mpr hg]
      rfl
  · have h1' : ¬ tl w = [49, 10] := fun z => h1 (ext_tl (z.trans e1.symm))
    rw [if_neg h1]
    by_cases h2 : w = "0\n"
    · subst h2
      rw [if_pos rfl, dec_strs, e2, e4]
      by_cases hg : tl g = [70, 97, 108, 115, 101, 10]
      · rw [hg]
        decide
      · rw [decide_eq_false fun z => hg z.symm, beq_eq_false_iff_ne.mpr hg, Bool.and_false]
        rfl
    · have h2' : ¬ tl w = [48, 10] := fun z => h2 (ext_tl (z.trans e2.symm))
      rw [if_neg h2]
      have : decide (V.non = V.str g) = false := rfl
      rw [this, beq_eq_false_iff_ne.mpr h1', beq_eq_false_iff_ne.mpr h2']
      rfl
theorem truth_scal (w g : Str) : scal (v_TRUTHS w) (.str g) = true := by
  unfold v_TRUTHS
  split
  · rfl
  · split <;> rfl
theorem dict_TRUTHS {K : PySem.W.Frag} {a : Addr} {n : Nat} {h0 h1 : Int} {t0 u0 t1 u1 : Tok} (l : K.lookup a = some ⟨.type "dict", none, .dict #[⟨h0, .str "1\n" t0, .str "True\n" u0⟩, ⟨h1, .str "0\n" t1, .str "False\n" u1⟩] n, #[]⟩) :
    ∀ z : Str, ∃ r, PySem.W.nsIn K a z = some r ∧ RelV (v_TRUTHS z) (r.getD .none) := by
  intro z
  unfold PySem.W.nsIn v_TRUTHS
  rw [l]
  by_cases h1 : z = "1\n"
  · subst h1
    exact ⟨some (.str "True\n" u0), rfl, u0, rfl⟩
  · rw [if_neg h1]
    by_cases h2 : z = "0\n"
    · subst h2
      exact ⟨some (.str "False\n" u1), rfl, u1, rfl⟩
    · rw [if_neg h2]
      refine ⟨none, ?_, rfl⟩
      have n1 : (("1\n" : Str) == z) = false := beq_eq_false_iff_ne.mpr fun e => h1 e.symm
      have n2 : (("0\n" : Str) == z) = false := beq_eq_false_iff_ne.mpr fun e => h2 e.symm
      simp only [List.find?, Value.isStr, n1, n2]
      rfl

/-! ### slices of texts; lines exchanged one by one -/
theorem cutS_from (z : Str) (k : Nat) : tl (cutS z (some (k : Int)) none) = (tl z).drop k := by
  show (z.cps.toList.drop (HT.sIx z.length 0 (some (k : Int)))).take (HT.sIx z.length z.length none - HT.sIx z.length 0 (some (k : Int))) = z.cps.toList.drop k
  have hl : z.cps.toList.length = z.length := (len_tl z).symm
  rw [HT.sIx_nat, HT.sIx_none]
  by_cases h : k ≤ z.length
  · rw [Nat.min_eq_left h]
    exact List.take_of_length_le (by rw [List.length_drop]; omega)
  · rw [Nat.min_eq_right (by omega), List.drop_of_length_le (by omega), List.drop_of_length_le (by omega)]
    simp
theorem cutS_to (z : Str) (k : Nat) : tl (cutS z none (some (k : Int))) = (tl z).take k := by
  show (z.cps.toList.drop (HT.sIx z.length 0 none)).take (HT.sIx z.length z.length (some (k : Int)) - HT.sIx z.length 0 none) = z.cps.toList.take k
  have hl : z.cps.toList.length = z.length := (len_tl z).symm
  rw [HT.sIx_nat, HT.sIx_none, List.drop_zero, Nat.sub_zero]
  by_cases h : k ≤ z.length
  · rw [Nat.min_eq_left h]
  · rw [Nat.min_eq_right (by omega), List.take_of_length_le (by omega), List.take_of_length_le (by omega)]
theorem cutS_mid (z : Str) (a b : Nat) (h : a ≤ z.length) : tl (cutS z (some (a : Int)) (some (b : Int))) = ((tl z).drop a).take (b - a) := by
  show (z.cps.toList.drop (HT.sIx z.length 0 (some (a : Int)))).take (HT.sIx z.length z.length (some (b : Int)) - HT.sIx z.length 0 (some (a : Int))) = (z.cps.toList.drop a).take (b - a)
  have hl : z.cps.toList.length = z.length := (len_tl z).symm
  rw [HT.sIx_nat, HT.sIx_nat, Nat.min_eq_left h]
  by_cases hb : b ≤ z.length
  · rw [Nat.min_eq_left hb]
  · rw [Nat.min_eq_right (by omega), List.take_of_length_le (by rw [List.length_drop]; omega), List.take_of_length_le (by rw [List.length_drop]; omega)]
theorem mk_eq : ("<BLANKLINE>" : Str) = ⟨MK.toArray⟩ := ext_tl (by decide +kernel)
theorem nl_eq : ("\n" : Str) = ⟨[10].toArray⟩ := ext_tl (by decide +kernel)
theorem sp_eq : (" " : Str) = ⟨[32].toArray⟩ := ext_tl (by decide +kernel)
theorem tab_eq : ("\t" : Str) = ⟨[9].toArray⟩ := ext_tl (by decide +kernel)
theorem str_at {ys : List Str} {i : Nat} {x : V} (h : (ys.map V.str)[i]? = some x) : ∃ z, x = V.str z ∧ ys[i]? = some z := by
  rw [List.getElem?_map] at h
  cases e : ys[i]? with
  | none =>
    rw [e] at h
    cases h
  | some z =>
    rw [e] at h
    exact ⟨z, (Option.some.inj h).symm, rfl⟩
theorem split_sizes (x : Str) {y : List Nat} (hy : y ≠ []) (h : y.all (· < 256) = true) : ((Txt.split x ⟨y.toArray⟩).map (·.length)).sum ≤ x.length ∧ (Txt.split x ⟨y.toArray⟩).length ≤ x.length + 1 := by
  have e := splitOf x hy h
  have s := spl_sizes (tl x) hy h
  rw [← e, List.map_map, List.length_map, ← len_tl] at s
  have e2 : (List.length ∘ tl) = fun z : Str => z.length := by
    funext z
    exact (len_tl z).symm
  rw [e2] at s
  exact s
theorem split_mem (x : Str) {y : List Nat} (hy : y ≠ []) (h : y.all (· < 256) = true) {z : Str} (hz : z ∈ Txt.split x ⟨y.toArray⟩) : z.length ≤ x.length := by
  have s := (split_sizes x hy h).1
  have : ∀ (l : List Str), z ∈ l → z.length ≤ (l.map (·.length)).sum := by
    intro l
    induction l with
    | nil => intro h; cases h
    | cons a r ih =>
      intro h
      rw [List.map_cons, List.sum_cons]
      rcases List.mem_cons.mp h with e | e
      · rw [e]
        omega
      · have := ih e
        omega
  have := this _ hz
  omega
section
variable {P : Program} {w : World} {K : PySem.W.Frag} {mg : Str → Option Value} {base : Heap}
def sp_is_mark : Sp := fun vs H Q _ => ∃ x : Str, vs = [.str x] ∧ x.length ≤ 1000000 ∧ Q (.bl (isMark (tl x))) H
theorem ok_is_mark {f : Addr} {fd : FuncData} {dvs : List V} (F : Fn K "is_mark" s_is_mark dvs f fd) (O_is_blank : Own P w K mg base "is_blank" 1 ["line"] [] (sp_is_blank)) (m_len : mg "len" = none) {t_MARK : Tok} (c_MARK : mg "MARK" = some (.str "<BLANKLINE>" t_MARK)) : FnOk P w K mg base CX0 2 f fd ["line"] (sp_is_mark) := by
  refine Fn.okN F sc_is_mark (fun vs H Q E h => ?_) (fun cdv A outer s H vs Q E hr h => ?_)
  · obtain ⟨_, rfl, _⟩ := h
    rfl
  · obtain ⟨x, rfl, hx, k⟩ := h
    refine ⟨_, (pss_one (ps_ret (pe_and (pe_m1 PySem.F.slot_str_startswith PySem.F.type_str_startswith mt_startswith (pv 0) (pe_glob (v := .str "<BLANKLINE>") rfl c_MARK ⟨_, rfl⟩)) (pe_one (pe_own O_is_blank (hr.mono (by decide)) (by rfl) (pa_cons (pe_slice sl_str (pv 0) (po_some (pe_callB call_len_str (by rfl) m_len PySem.boot_len (pa_cons (pe_glob (v := .str "<BLANKLINE>") rfl c_MARK ⟨_, rfl⟩) pa_nil))) po_none) pa_nil)))))), ?_⟩
    refine ⟨.str x, rfl, ⟨_, rfl⟩, x, "<BLANKLINE>", rfl, rfl, _, rfl, ?_⟩
    rw [mk_eq, starts_pre x (y := MK) (by decide)]
    unfold isMark at k
    cases hm : pre MK (tl x) with
    | false =>
      rw [hm] at k
      exact iteF k
    | true =>
      rw [hm] at k
      refine iteT ⟨.str x, rfl, ⟨MK.toArray⟩, rfl, by decide, 11, rfl, x, rfl, line_of hx, cutS x (some 11) none, rfl, Nat.le_trans (cutS_length _ _ _) hx, ?_⟩
      have e := cutS_from x 11
      rw [show (some ((11 : Nat) : Int)) = (some (11 : Int)) from rfl] at e
      rw [e]
      exact k
def emptied (f : List Nat → Bool) (l : Str) : Str := if f (tl l) then ⟨#[]⟩ else l
theorem emptied_len (f : List Nat → Bool) (l : Str) : (emptied f l).length ≤ l.length := by
  unfold emptied
  split
  · exact Nat.zero_le _
  · exact Nat.le_refl _
theorem emptied_join (f : List Nat → Bool) (x : Str) : Txt.join ⟨[10].toArray⟩ ((Txt.split x ⟨[10].toArray⟩).map (emptied f)) = ⟨(joinL [10] ((spl [10] 0 [] (tl x)).map fun l => if f l then [] else l)).toArray⟩ := by
  refine ext_tl ?_
  rw [join_eq, tl_join, List.map_map, ← splitOf x (y := [10]) (by simp) (by decide), List.map_map]
  refine congrArg (joinL [10]) (List.map_congr_left fun a _ => ?_)
  show tl (emptied f a) = if f (tl a) then [] else tl a
  unfold emptied
  split <;> rfl
theorem emptied_sizes (f : List Nat → Bool) (x : Str) (hx : x.length ≤ 1000000) : (((Txt.split x ⟨[10].toArray⟩).map (emptied f)).map (·.length)).sum + ((Txt.split x ⟨[10].toArray⟩).map (emptied f)).length * (⟨[10].toArray⟩ : Str).length ≤ 16777216 := by
  have s := split_sizes x (y := [10]) (by simp) (by decide)
  rw [List.map_map, List.length_map]
  have h := sum_map_le (fun z => (emptied f z).length) (fun z => z.length) (Txt.split x ⟨[10].toArray⟩) fun z _ => emptied_len f z
  have e : ((Txt.split x ⟨[10].toArray⟩).map ((fun z => z.length) ∘ emptied f)).sum = ((Txt.split x ⟨[10].toArray⟩).map fun z => (emptied f z).length).sum := rfl
  have l1 : (⟨[10].toArray⟩ : Str).length = 1 := rfl
  rw [e, l1]
  omega
theorem take_map {α β : Type} (f : α → β) {l : List α} {i : Nat} {a : α} (h : l[i]? = some a) : (l.take (i + 1)).map f = (l.take i).map f ++ [f a] := by
  rw [List.take_add_one, h, List.map_append]
  rfl
def sp_marks_emptied : Sp := fun vs H Q _ => ∃ x : Str, vs = [.str x] ∧ x.length ≤ 1000000 ∧ ∀ H', Same H H' → Q (.str ⟨(marksOf (tl x)).toArray⟩) H'
theorem ok_marks_emptied {f : Addr} {fd : FuncData} {dvs : List V} (F : Fn K "marks_emptied" s_marks_emptied dvs f fd) (O_is_mark : Own P w K mg base "is_mark" 2 ["line"] [] (sp_is_mark)) : FnOk P w K mg base CX0 3 f fd ["want"] (sp_marks_emptied) := by
  refine Fn.okN F sc_marks_emptied (fun vs H Q E h => ?_) (fun cdv A outer s H vs Q E hr h => ?_)
  · obtain ⟨_, rfl, _⟩ := h
    rfl
  · obtain ⟨x, rfl, hx, k⟩ := h
    refine ⟨_, (pss_one (ps_ret (pe_m1 PySem.F.slot_str_join PySem.F.type_str_join mt_join pe_str (pe_lc (own := [("line", 1)]) (g := gName 1) (tt := tYes) (by rfl) sc_marks_emptied.nd (pi_list (pe_m1 PySem.F.slot_str_split PySem.F.type_str_split mt_split (pv 0) pe_str)) (blkOk_by (own := [("line", 1)]) (N := ["want", "line"]) (sc := defScope s_marks_emptied) (by decide +kernel)) (fun _ _ _ _ _ => (pg_name (i := 1) sc_marks_emptied.nd rfl (.inl rfl))) (fun _ _ _ _ _ => pts_nil) (fun _ _ _ _ _ => (pe_ifExp (pt_val (pe_own O_is_mark (hr.mono (by decide)) (by rfl) (pa_cons (pv 1) pa_nil))) pe_str (pv 1))))))), ?_⟩
    have s := split_sizes x (y := [10]) (by simp) (by decide)
    refine ⟨⟨_, rfl⟩, .str x, rfl, ⟨_, rfl⟩, x, "\n", rfl, rfl, by decide +kernel, by rw [sizeLine_eq]; omega, fun p np => ⟨p, rfl, ⟨_, SqL.of upd_same⟩, fun L nL => ?_⟩⟩
    rw [nl_eq] at nL ⊢
    have s1 := same_new (o := .lst ((Txt.split x ⟨[10].toArray⟩).map V.str)) np
    have e1 : (upd H p (.lst ((Txt.split x ⟨[10].toArray⟩).map V.str))) p = some (.lst ((Txt.split x ⟨[10].toArray⟩).map V.str)) := upd_same
    generalize upd H p (.lst ((Txt.split x ⟨[10].toArray⟩).map V.str)) = H1 at nL s1 e1 ⊢
    have pL : p ≠ L := ne_of_none e1 nL
    refine lc_list (K := K) (a := p) (xs := (Txt.split x ⟨[10].toArray⟩).map V.str) (fun i H2 => H2 L = some (.lst ((((Txt.split x ⟨[10].toArray⟩).take i).map (emptied isMark)).map V.str)) ∧ Same H1 H2)
      ⟨upd_same, same_new nL⟩ (fun i H2 _ h2 => SqL.of (h2.2 _ _ e1)) ?_ ?_
    · rintro i v H2 hv ⟨eL, s2⟩
      obtain ⟨z, rfl, hz⟩ := str_at hv
      have hil : i < (Txt.split x ⟨[10].toArray⟩).length := (List.getElem?_eq_some_iff.mp hz).1
      have zl := split_mem x (y := [10]) (by simp) (by decide) (List.mem_of_getElem? hz)
      have fin : ∃ acc, H2 L = some (.lst acc) ∧ acc.length < sizeLine ∧ ((upd H2 L (.lst (acc ++ [V.str (emptied isMark z)]))) L = some (.lst ((((Txt.split x ⟨[10].toArray⟩).take (i + 1)).map (emptied isMark)).map V.str)) ∧ Same H1 (upd H2 L (.lst (acc ++ [V.str (emptied isMark z)])))) := by
        refine ⟨_, eL, by rw [List.length_map, List.length_map, List.length_take, sizeLine_eq]; omega, ?_, fun b o e => ?_⟩
        · rw [upd_same, take_map _ hz, List.map_append]
          rfl
        · rw [upd_ne (ne_of_none e nL)]
          exact s2 b o e
      refine ⟨rfl, .str z, rfl, z, rfl, by omega, _, rfl, ?_⟩
      unfold emptied at fin
      cases hm : isMark (tl z) with
      | true =>
        rw [hm] at fin
        exact iteT fin
      | false =>
        rw [hm] at fin
        exact iteF ⟨.str z, rfl, fin⟩
    · rintro H2 ⟨eL, s2⟩
      rw [List.length_map, List.take_length] at eL
      refine ⟨⟨[10].toArray⟩, L, (Txt.split x ⟨[10].toArray⟩).map (emptied isMark), rfl, rfl, .inl (SqL.of eL), emptied_sizes isMark x hx, ?_⟩
      rw [emptied_join]
      exact k _ (s1.trans s2)
def sp_blanks_emptied : Sp := fun vs H Q _ => ∃ x : Str, vs = [.str x] ∧ x.length ≤ 1000000 ∧ ∀ H', Same H H' → Q (.str ⟨(blanksOf (tl x)).toArray⟩) H'
theorem ok_blanks_emptied {f : Addr} {fd : FuncData} {dvs : List V} (F : Fn K "blanks_emptied" s_blanks_emptied dvs f fd) (O_is_blank : Own P w K mg base "is_blank" 1 ["line"] [] (sp_is_blank)) : FnOk P w K mg base CX0 2 f fd ["got"] (sp_blanks_emptied) := by
  refine Fn.okN F sc_blanks_emptied (fun vs H Q E h => ?_) (fun cdv A outer s H vs Q E hr h => ?_)
  · obtain ⟨_, rfl, _⟩ := h
    rfl
  · obtain ⟨x, rfl, hx, k⟩ := h
    refine ⟨_, (pss_one (ps_ret (pe_m1 PySem.F.slot_str_join PySem.F.type_str_join mt_join pe_str (pe_lc (own := [("line", 1)]) (g := gName 1) (tt := tYes) (by rfl) sc_blanks_emptied.nd (pi_list (pe_m1 PySem.F.slot_str_split PySem.F.type_str_split mt_split (pv 0) pe_str)) (blkOk_by (own := [("line", 1)]) (N := ["got", "line"]) (sc := defScope s_blanks_emptied) (by decide +kernel)) (fun _ _ _ _ _ => (pg_name (i := 1) sc_blanks_emptied.nd rfl (.inl rfl))) (fun _ _ _ _ _ => pts_nil) (fun _ _ _ _ _ => (pe_ifExp (pt_val (pe_own O_is_blank (hr.mono (by decide)) (by rfl) (pa_cons (pv 1) pa_nil))) pe_str (pv 1))))))), ?_⟩
    have s := split_sizes x (y := [10]) (by simp) (by decide)
    refine ⟨⟨_, rfl⟩, .str x, rfl, ⟨_, rfl⟩, x, "\n", rfl, rfl, by decide +kernel, by rw [sizeLine_eq]; omega, fun p np => ⟨p, rfl, ⟨_, SqL.of upd_same⟩, fun L nL => ?_⟩⟩
    rw [nl_eq] at nL ⊢
    have s1 := same_new (o := .lst ((Txt.split x ⟨[10].toArray⟩).map V.str)) np
    have e1 : (upd H p (.lst ((Txt.split x ⟨[10].toArray⟩).map V.str))) p = some (.lst ((Txt.split x ⟨[10].toArray⟩).map V.str)) := upd_same
    generalize upd H p (.lst ((Txt.split x ⟨[10].toArray⟩).map V.str)) = H1 at nL s1 e1 ⊢
    have pL : p ≠ L := ne_of_none e1 nL
    refine lc_list (K := K) (a := p) (xs := (Txt.split x ⟨[10].toArray⟩).map V.str) (fun i H2 => H2 L = some (.lst ((((Txt.split x ⟨[10].toArray⟩).take i).map (emptied isBlank)).map V.str)) ∧ Same H1 H2)
      ⟨upd_same, same_new nL⟩ (fun i H2 _ h2 => SqL.of (h2.2 _ _ e1)) ?_ ?_
    · rintro i v H2 hv ⟨eL, s2⟩
      obtain ⟨z, rfl, hz⟩ := str_at hv
      have hil : i < (Txt.split x ⟨[10].toArray⟩).length := (List.getElem?_eq_some_iff.mp hz).1
      have zl := split_mem x (y := [10]) (by simp) (by decide) (List.mem_of_getElem? hz)
      have fin : ∃ acc, H2 L = some (.lst acc) ∧ acc.length < sizeLine ∧ ((upd H2 L (.lst (acc ++ [V.str (emptied isBlank z)]))) L = some (.lst ((((Txt.split x ⟨[10].toArray⟩).take (i + 1)).map (emptied isBlank)).map V.str)) ∧ Same H1 (upd H2 L (.lst (acc ++ [V.str (emptied isBlank z)])))) := by
        refine ⟨_, eL, by rw [List.length_map, List.length_map, List.length_take, sizeLine_eq]; omega, ?_, fun b o e => ?_⟩
        · rw [upd_same, take_map _ hz, List.map_append]
          rfl
        · rw [upd_ne (ne_of_none e nL)]
          exact s2 b o e
      refine ⟨rfl, .str z, rfl, z, rfl, by omega, _, rfl, ?_⟩
      unfold emptied at fin
      cases hm : isBlank (tl z) with
      | true =>
        rw [hm] at fin
        exact iteT fin
      | false =>
        rw [hm] at fin
        exact iteF ⟨.str z, rfl, fin⟩
    · rintro H2 ⟨eL, s2⟩
      rw [List.length_map, List.take_length] at eL
      refine ⟨⟨[10].toArray⟩, L, (Txt.split x ⟨[10].toArray⟩).map (emptied isBlank), rfl, rfl, .inl (SqL.of eL), emptied_sizes isBlank x hx, ?_⟩
      rw [emptied_join]
      exact k _ (s1.trans s2)
end

/-! ### words -/
theorem replL_one (c d : Nat) : ∀ l : List Nat, StrLaws.replL [c] [d] l = l.map fun e => if e == c then d else e
  | [] => by rw [StrLaws.replL_nil]; rfl
  | e :: r => by
    have ih := replL_one c d r
    unfold StrLaws.replL at ih ⊢
    unfold StrLaws.replS
    rw [List.map_cons, ← ih]
    by_cases h : e = c
    · subst h
      rw [if_pos (show List.take [e].length (e :: r) = [e] from rfl), beq_self_eq_true]
      rfl
    · rw [if_neg (by simpa using h), beq_eq_false_iff_ne.mpr h]
      rfl
theorem replace_map (x : Str) (c d : Nat) : tl (Txt.replace x ⟨[c].toArray⟩ ⟨[d].toArray⟩) = (tl x).map fun e => if e == c then d else e := by
  have h := StrLaws.replace_list (x := x) (y := ⟨[c].toArray⟩) (z := ⟨[d].toArray⟩) (Nat.le_refl _)
  show (Txt.replace x ⟨[c].toArray⟩ ⟨[d].toArray⟩).cps.toList = _
  rw [h]
  exact replL_one c d (tl x)
theorem spaced_eq (x : Str) : tl (Txt.replace (Txt.replace x ⟨[9].toArray⟩ ⟨[32].toArray⟩) ⟨[10].toArray⟩ ⟨[32].toArray⟩) = (tl x).map fun c => if c == 9 || c == 10 then 32 else c := by
  rw [replace_map, replace_map, List.map_map]
  refine List.map_congr_left fun c _ => ?_
  show (if (if c == 9 then 32 else c) == 10 then 32 else if c == 9 then 32 else c) = if c == 9 || c == 10 then 32 else c
  by_cases h : c = 9
  · subst h
    rfl
  · rw [beq_eq_false_iff_ne.mpr h]
    rfl
def full (z : Str) : Bool := !(tl z).isEmpty
theorem full_len (z : Str) : ((z.length : Int) != 0) = full z := by
  unfold full
  rw [len_tl, emptyEq]
  rw [Bool.eq_iff_iff]
  simp
theorem words_join (x u : Str) (hu : tl u = (tl x).map fun c => if c == 9 || c == 10 then 32 else c) : Txt.join ⟨[32].toArray⟩ ((Txt.split u ⟨[32].toArray⟩).filter full) = ⟨(wordsOf (tl x)).toArray⟩ := by
  refine ext_tl ?_
  unfold wordsOf
  rw [join_eq, tl_join, ← hu, ← splitOf u (y := [32]) (by simp) (by decide), List.filter_map]
  rfl
theorem filter_len (p : Str → Bool) : ∀ ps : List Str, ((ps.filter p).map (·.length)).sum ≤ (ps.map (·.length)).sum
  | [] => Nat.le_refl _
  | x :: r => by
    have ih := filter_len p r
    rw [List.filter_cons]
    split
    · rw [List.map_cons, List.map_cons, List.sum_cons, List.sum_cons]
      omega
    · rw [List.map_cons, List.sum_cons]
      omega
theorem take_filter {α : Type} (p : α → Bool) {l : List α} {i : Nat} {a : α} (h : l[i]? = some a) : (l.take (i + 1)).filter p = (l.take i).filter p ++ (if p a then [a] else []) := by
  rw [List.take_add_one, h, List.filter_append]
  show _ ++ List.filter p [a] = _
  rw [List.filter_cons]
  rfl
section
variable {P : Program} {w : World} {K : PySem.W.Frag} {mg : Str → Option Value} {base : Heap}
/-- a new list of the words of a text -/
def sp_words_of : Sp := fun vs H Q _ => ∃ x : Str, vs = [.str x] ∧ x.length ≤ 1000000 ∧ ∀ (H' : Hp) (L : Addr) (u : Str), Same H H' → H L = none → u.length = x.length → (tl u = (tl x).map fun c => if c == 9 || c == 10 then 32 else c) →
  H' L = some (.lst (((Txt.split u ⟨[32].toArray⟩).filter full).map V.str)) → Q (.ref L) H'
theorem ok_words_of {f : Addr} {fd : FuncData} {dvs : List V} (F : Fn K "words_of" s_words_of dvs f fd) : FnT P w K mg base CX0 1 f fd ["text"] (sp_words_of) := by
  refine Fn.okT F sc_words_of (fun vs H Q E h => ?_) (fun cdv A outer s H vs Q E hr h => ?_)
  · obtain ⟨_, rfl, _⟩ := h
    rfl
  · obtain ⟨x, rfl, hx, k⟩ := h
    refine ⟨_, (bt_cons (st_set (i := 1) sc_words_of.nd rfl (.inl rfl) (et_repl (et_repl (ET.of (pv 0)) (by decide +kernel)) (by decide +kernel)))
      (bt_one (ST.of (ps_ret (pe_lc (own := [("word", 2)]) (g := gName 2) (by rfl) sc_words_of.nd (pi_list (pe_m1 PySem.F.slot_str_split PySem.F.type_str_split mt_split (pv 1) pe_str)) (blkOk_by (own := [("word", 2)]) (N := ["text", "spaced", "word"]) (sc := defScope s_words_of) (by decide +kernel)) (fun _ _ _ _ _ => (pg_name (i := 2) sc_words_of.nd rfl (.inl rfl))) (fun _ _ _ _ _ => (pts_one (pt_tr (K' := K) (pv 2)))) (fun _ _ _ _ _ => (pv 2))))))), ?_⟩
    have lr : ∀ (z : Str) (c d : Nat), (Txt.replace z ⟨[c].toArray⟩ ⟨[d].toArray⟩).length = z.length := fun z c d => by rw [len_tl, replace_map, List.length_map, ← len_tl]
    have l1 : (" " : Str).length = 1 := by decide +kernel
    refine ⟨.str x, rfl, x, rfl, by rw [l1]; omega, _, rfl, ?_, ?_⟩
    · rw [l1, tab_eq, sp_eq, lr]
      omega
    rw [tab_eq, sp_eq, nl_eq]
    have hu := spaced_eq x
    have lu : (Txt.replace (Txt.replace x ⟨[9].toArray⟩ ⟨[32].toArray⟩) ⟨[10].toArray⟩ ⟨[32].toArray⟩).length = x.length := by rw [lr, lr]
    generalize Txt.replace (Txt.replace x ⟨[9].toArray⟩ ⟨[32].toArray⟩) ⟨[10].toArray⟩ ⟨[32].toArray⟩ = u at hu lu
    have s := split_sizes u (y := [32]) (by simp) (by decide)
    refine ⟨.str u, rfl, ⟨_, rfl⟩, u, " ", rfl, rfl, by decide +kernel, by rw [sizeLine_eq]; omega, fun p np => ⟨p, rfl, ⟨_, SqL.of upd_same⟩, fun L nL => ?_⟩⟩
    rw [sp_eq] at nL ⊢
    have s1 := same_new (o := .lst ((Txt.split u ⟨[32].toArray⟩).map V.str)) np
    have e1 : (upd H p (.lst ((Txt.split u ⟨[32].toArray⟩).map V.str))) p = some (.lst ((Txt.split u ⟨[32].toArray⟩).map V.str)) := upd_same
    have nL0 : H L = none := s1.free nL
    generalize upd H p (.lst ((Txt.split u ⟨[32].toArray⟩).map V.str)) = H1 at nL s1 e1 ⊢
    refine lc_list (K := K) (a := p) (xs := (Txt.split u ⟨[32].toArray⟩).map V.str) (fun i H2 => H2 L = some (.lst ((((Txt.split u ⟨[32].toArray⟩).take i).filter full).map V.str)) ∧ Same H1 H2)
      ⟨upd_same, same_new nL⟩ (fun i H2 _ h2 => SqL.of (h2.2 _ _ e1)) ?_ ?_
    · rintro i v H2 hv ⟨eL, s2⟩
      obtain ⟨z, rfl, hz⟩ := str_at hv
      have hil : i < (Txt.split u ⟨[32].toArray⟩).length := (List.getElem?_eq_some_iff.mp hz).1
      have zl := split_mem u (y := [32]) (by simp) (by decide) (List.mem_of_getElem? hz)
      refine ⟨rfl, .str z, rfl, _, ⟨by rw [sizeLine_eq]; omega, rfl⟩, ?_⟩
      rw [full_len]
      have et := take_filter full hz
      cases hf : full z with
      | true =>
        rw [hf] at et
        have fl : (((Txt.split u ⟨[32].toArray⟩).take i).filter full).length ≤ i := Nat.le_trans (List.length_filter_le _ _) (List.length_take_le _ _)
        refine iteT ⟨.str z, rfl, _, eL, by rw [List.length_map, sizeLine_eq]; omega, ?_, fun b o e => ?_⟩
        · rw [upd_same, et, List.map_append]
          rfl
        · rw [upd_ne (ne_of_none e nL)]
          exact s2 b o e
      | false =>
        rw [hf] at et
        refine iteF ⟨?_, s2⟩
        rw [et]
        show H2 L = some (.lst (((((Txt.split u ⟨[32].toArray⟩).take i).filter full) ++ []).map V.str))
        rw [List.append_nil]
        exact eL
    · rintro H2 ⟨eL, s2⟩
      rw [List.length_map, List.take_length] at eL
      exact k _ L u (s1.trans s2) nL0 lu hu eL
def sp_words_joined : Sp := fun vs H Q _ => ∃ x : Str, vs = [.str x] ∧ x.length ≤ 1000000 ∧ ∀ H', Same H H' → Q (.str ⟨(wordsOf (tl x)).toArray⟩) H'
theorem ok_words_joined {f : Addr} {fd : FuncData} {dvs : List V} (F : Fn K "words_joined" s_words_joined dvs f fd) (O_words_of : OwnT P w K mg base "words_of" 1 ["text"] [] (sp_words_of)) : FnT P w K mg base CX0 2 f fd ["text"] (sp_words_joined) := by
  refine Fn.okT F sc_words_joined (fun vs H Q E h => ?_) (fun cdv A outer s H vs Q E hr h => ?_)
  · obtain ⟨_, rfl, _⟩ := h
    rfl
  · obtain ⟨x, rfl, hx, k⟩ := h
    refine ⟨_, (bt_one (st_ret (et_bm PySem.F.plainAttrs_str PySem.F.slot_str_join PySem.F.type_str_join mt_join (ET.of pe_str) (at_cons (et_own O_words_of (hr.mono (by decide)) (by rfl) (AT.of (pa_cons (pv 0) pa_nil))) at_nil)))), ?_⟩
    refine ⟨rfl, .str x, rfl, x, rfl, hx, fun H1 L u s1 nL lu hu eL => ?_⟩
    have s := split_sizes u (y := [32]) (by simp) (by decide)
    have fs := filter_len full (Txt.split u ⟨[32].toArray⟩)
    have fl := List.length_filter_le full (Txt.split u ⟨[32].toArray⟩)
    have l2 : (⟨[32].toArray⟩ : Str).length = 1 := rfl
    refine ⟨⟨[32].toArray⟩, L, (Txt.split u ⟨[32].toArray⟩).filter full, rfl, rfl, .inl (SqL.of eL), by rw [l2]; omega, ?_⟩
    rw [words_join x u hu]
    exact k _ s1
end

/-! ### pieces in a text -/
theorem pre_len {S l : List Nat} (h : pre S l = true) : S.length ≤ l.length := by
  have e : l.take S.length = S := eq_of_beq h
  have e2 := congrArg List.length e
  rw [List.length_take] at e2
  omega
theorem starts_any (x y : Str) : Txt.startswith x y = pre (tl y) (tl x) := by
  unfold Txt.startswith
  rw [Nat.zero_add, StrLaws.subAt_eq, List.drop_zero, len_tl y, len_tl x]
  show (decide ((tl y).length ≤ (tl x).length) && pre (tl y) (tl x)) = pre (tl y) (tl x)
  cases h : pre (tl y) (tl x) with
  | false => rw [Bool.and_false]
  | true => rw [decide_eq_true (pre_len h)]; rfl
theorem ends_any (x y : Str) : Txt.endswith x y = ends (tl y) (tl x) := by
  unfold Txt.endswith ends
  rw [Nat.zero_add, StrLaws.subAt_eq, len_tl y, len_tl x]
  rfl
theorem cut_inner (f z : V) (xs : List V) : cutV (f :: (xs ++ [z])) (some 1) (some (-1)) = xs := by
  unfold cutV
  have hl : (f :: (xs ++ [z])).length = xs.length + 2 := by simp
  have e1 : HT.sIx (f :: (xs ++ [z])).length 0 (some 1) = 1 := by
    rw [show HT.sIx (f :: (xs ++ [z])).length 0 (some 1) = min 1 (f :: (xs ++ [z])).length from HT.sIx_nat _ 0 1, hl]
    omega
  have e2 : HT.sIx (f :: (xs ++ [z])).length (f :: (xs ++ [z])).length (some (-1)) = xs.length + 1 := by
    show (if (-1 : Int) < 0 then ((-1 : Int) + ((f :: (xs ++ [z])).length : Int)).toNat else min (-1 : Int).toNat (f :: (xs ++ [z])).length) = xs.length + 1
    rw [if_pos (by decide), hl]
    omega
  rw [e1, e2]
  show (xs ++ [z]).take (xs.length + 1 - 1) = xs
  rw [Nat.add_sub_cancel, List.take_left]
theorem at_end (f z : V) (xs : List V) : atI (f :: (xs ++ [z])) (-1) = some z := atI_last (f :: xs) z
/-- what a search for pieces gives -/
def reach (g : List Nat) (e : Nat) : Option Nat → Bool
  | none => false
  | some a => decide (a ≤ e)
section
variable {P : Program} {w : World} {K : PySem.W.Frag} {mg : Str → Option Value} {base : Heap}
def sp_has_pieces : Sp := fun vs H Q _ => ∃ (p : Addr) (f : Str) (inner : List Str) (z g : Str), vs = [.ref p, .str g] ∧ H p = some (.lst ((f :: (inner ++ [z])).map V.str)) ∧ f.length ≤ 1000000 ∧ z.length ≤ 1000000 ∧ g.length ≤ 1000000 ∧ (∀ y ∈ inner, y.length ≤ 1000000) ∧
  ∀ H', Same H H' → Q (.bl (inOrder (tl f) (inner.map tl) (tl z) (tl g))) H'
theorem ok_has_pieces {f : Addr} {fd : FuncData} {dvs : List V} (F : Fn K "has_pieces" s_has_pieces dvs f fd) (m_len : mg "len" = none) : FnOk P w K mg base CX0 1 f fd ["pieces", "got"] (sp_has_pieces) := by
  refine Fn.okN F sc_has_pieces (fun vs H Q E h => ?_) (fun cdv A outer s H vs Q E hr h => ?_)
  · obtain ⟨_, _, _, _, _, rfl, _⟩ := h
    rfl
  · obtain ⟨p, f, inner, z, g, rfl, hp, lf, lz, lg, li, k⟩ := h
    refine ⟨_, (pss_cons (ps_if (PW.pt (pw_or (pt_not (pt_val (pe_m1 PySem.F.slot_str_startswith PySem.F.type_str_startswith mt_startswith (pv 1) (pe_ix ix_list (pv 0) pe_int (fun _ _ => rfl))))) (pw_or1 (pt_not (pt_val (pe_m1 PySem.F.slot_str_endswith PySem.F.type_str_endswith mt_endswith (pv 1) (pe_ix ix_list (pv 0) (pe_un un_neg pe_int) (fun _ _ => rfl))))))))
          (pss_one (ps_ret pe_bl))
          pss_nil)
      (pss_cons (ps_set (i := 2) sc_has_pieces.nd rfl (.inl rfl) (pe_callB call_len_str (by rfl) m_len PySem.boot_len (pa_cons (pe_ix ix_list (pv 0) pe_int (fun _ _ => rfl)) pa_nil)))
      (pss_cons (ps_set (i := 3) sc_has_pieces.nd rfl (.inl rfl) (pe_op op_sub (pe_callB call_len_str (by rfl) m_len PySem.boot_len (pa_cons (pv 1) pa_nil)) (pe_callB call_len_str (by rfl) m_len PySem.boot_len (pa_cons (pe_ix ix_list (pv 0) (pe_un un_neg pe_int) (fun _ _ => rfl)) pa_nil))))
      (pss_cons (ps_for PassesOwn.never rfl (pi_list (pe_slice sl_list (pv 0) (po_some pe_int) (po_some (pe_un un_neg pe_int)))) (pg_name (i := 4) sc_has_pieces.nd rfl (.inl rfl))
          (pss_cons (ps_set (i := 2) sc_has_pieces.nd rfl (.inl rfl) (pe_bm PySem.F.plainAttrs_str PySem.F.slot_str_find PySem.F.type_str_find mt_find4 (pv 1) (pa_cons (pv 4) (pa_cons (pv 2) (pa_cons (pv 3) pa_nil)))))
            (pss_cons (ps_if (pt_cmpR op_lt (pv 2) pe_int (nomark _))
                (pss_one (ps_ret pe_bl))
                pss_nil)
            (pss_one (ps_set (i := 2) sc_has_pieces.nd rfl (.inl rfl) (pe_op op_add (pv 2) (pe_callB call_len_str (by rfl) m_len PySem.boot_len (pa_cons (pv 4) pa_nil))))))))
      (pss_one (ps_ret (pe_cmpR op_le (pv 2) (pv 3) (nomark _)))))))), ?_⟩
    have hp0 : (f :: (inner ++ [z])).map V.str = V.str f :: (inner.map V.str ++ [V.str z]) := by simp
    rw [hp0] at hp
    have hend := at_end (V.str f) (V.str z) (inner.map V.str)
    have out : pre (tl f) (tl g) = false ∨ ends (tl z) (tl g) = false → Q (.bl false) H := fun h => by
      have k0 := k H fun _ _ e => e
      unfold inOrder at k0
      rcases h with h | h
      · rw [h] at k0
        exact k0
      · rw [h, Bool.false_and, Bool.and_false] at k0
        exact k0
    refine ⟨.str g, rfl, ⟨_, rfl⟩, .ref p, rfl, p, _, 0, .str f, rfl, rfl, SqL.of hp, atI_nat (j := 0) rfl, g, f, rfl, rfl, _, rfl, ?_⟩
    rw [starts_any]
    cases h1 : pre (tl f) (tl g) with
    | false => exact iteT (iteT (out (.inl h1)))
    | true =>
    refine iteF ⟨.str g, rfl, ⟨_, rfl⟩, .ref p, rfl, 1, rfl, p, _, -1, .str z, rfl, rfl, SqL.of hp, hend, g, z, rfl, rfl, _, rfl, ?_⟩
    rw [ends_any]
    cases h2 : ends (tl z) (tl g) with
    | false => exact iteT (out (.inr h2))
    | true =>
    refine iteF ?_
    have hz : z.length ≤ g.length := by
      unfold ends at h2
      rw [Bool.and_eq_true, decide_eq_true_eq, ← len_tl, ← len_tl] at h2
      exact h2.1
    refine ⟨.ref p, rfl, p, _, 0, .str f, rfl, rfl, SqL.of hp, atI_nat (j := 0) rfl, f, rfl, line_of lf, ?_⟩
    refine ⟨.str g, rfl, g, rfl, line_of lg, .ref p, rfl, 1, rfl, p, _, -1, .str z, rfl, rfl, SqL.of hp, hend, z, rfl, line_of lz, _, _, rfl, rfl, ?_⟩
    have k' : ∀ H', Same H H' → Q (.bl (reach (tl g) (g.length - z.length) (chain (tl g) (g.length - z.length) (inner.map tl) f.length))) H' := fun H' s => by
      have k0 := k H' s
      unfold inOrder at k0
      rw [h1, h2, ← len_tl, ← len_tl, ← len_tl] at k0
      exact k0
    generalize hE : g.length - z.length = e at k'
    have le : e ≤ g.length := by omega
    have eend : (g.length : Int) - (z.length : Int) = (e : Int) := by omega
    refine ⟨.ref p, rfl, 1, rfl, 1, rfl, -1, rfl, p, _, rfl, SqL.of hp, fun L nL => ?_⟩
    rw [cut_inner]
    refine ⟨L, rfl, ⟨_, SqL.of upd_same⟩, ?_⟩
    have s1 := same_new (o := .lst (inner.map V.str)) nL
    have eL : (upd H L (.lst (inner.map V.str))) L = some (.lst (inner.map V.str)) := upd_same
    generalize upd H L (.lst (inner.map V.str)) = H1 at s1 eL ⊢
    refine for_list (K := K) (a := L) (xs := inner.map V.str) (fun i σ H2 => ∃ (a : Nat) (v4 : Option V), σ = [some (.ref p), some (.str g), some (.int (a : Int)), some (.int ((g.length : Int) - (z.length : Int))), v4] ∧ H2 = H1 ∧ chain (tl g) e ((inner.map tl).take i) f.length = some a ∧ a ≤ 2000000 + e) ⟨f.length, none, rfl, rfl, rfl, by omega⟩ (fun i σ H2 _ h => by obtain ⟨_, _, _, rfl, _⟩ := h; exact SqL.of eL) ?_ ?_
    · rintro i v σ H2 hv ⟨a, v4, rfl, rfl, hc, ha⟩
      obtain ⟨y, rfl, hy⟩ := str_at hv
      have ly := li y (List.mem_of_getElem? hy)
      have et : (inner.map tl).take (i + 1) = (inner.map tl).take i ++ [tl y] := by rw [List.take_add_one, List.getElem?_map, hy]; rfl
      refine ⟨.str g, rfl, rfl, .str y, rfl, _, rfl, _, rfl, g, y, (a : Int), (g.length : Int) - (z.length : Int), rfl, rfl, ?_⟩
      rw [eend]
      have none_out : firstFrom (fitsAt (tl y) (tl g) e) (e + 1 - a) a = none → Q (.bl false) H2 := fun h => by
        have k0 := k' H2 s1
        have es : inner.map tl = (inner.map tl).take (i + 1) ++ (inner.map tl).drop (i + 1) := (List.take_append_drop _ _).symm
        rw [es, chain_app, et, chain_app, hc] at k0
        have c1 : chain (tl g) e [tl y] a = none := by
          unfold chain
          rw [h]
        simp only [Option.bind_some, c1, Option.bind_none] at k0
        exact k0
      by_cases hal : a ≤ g.length
      · rw [find_first g y a e le hal]
        cases hf : firstFrom (fitsAt (tl y) (tl g) e) (e + 1 - a) a with
        | none => exact ⟨_, rfl, _, _, rfl, rfl, _, rfl, iteT (none_out hf)⟩
        | some j =>
          have hj : (fitsAt (tl y) (tl g) e j) = true := (firstFrom_some hf).2.2.1
          unfold fitsAt at hj
          rw [Bool.and_eq_true, decide_eq_true_eq, ← len_tl] at hj
          refine ⟨_, rfl, _, _, rfl, rfl, _, rfl, ?_⟩
          rw [decide_eq_false (show ¬ ((j : Int) < 0) by omega)]
          refine iteF ⟨_, rfl, .str y, rfl, y, rfl, line_of ly, _, _, rfl, rfl, j + y.length, some (.str y), ?_, rfl, ?_, by omega⟩
          · show [some (V.ref p), some (V.str g), some (V.int ((j : Int) + (y.length : Int))), some (V.int (e : Int)), some (V.str y)] = _
            rw [show ((j : Int) + (y.length : Int)) = ((j + y.length : Nat) : Int) by omega]
          · rw [et, chain_app, hc]
            show chain (tl g) e [tl y] a = some (j + y.length)
            unfold chain
            rw [hf, ← len_tl]
            rfl
      · -- beyond the text nothing is found
        have hn : firstFrom (fitsAt (tl y) (tl g) e) (e + 1 - a) a = none := firstFrom_no fun i h1 h2 => by omega
        have e0 : Txt.findIn g y (a : Int) (e : Int) = -1 := by
          unfold Txt.findIn
          have e1 : fromIndex g.length (a : Int) = a := by
            unfold fromIndex
            rw [if_neg (by omega)]
            omega
          have e2 : toIndexW g.length (e : Int) = e := by
            unfold toIndexW
            rw [if_neg (by omega)]
            omega
          rw [e1, e2]
          rcases occ_within g y a e with ⟨h0, _⟩ | ⟨i, r, h0, q1, q2, _⟩
          · rw [h0]
          · have := q2.1
            omega
        rw [e0]
        exact ⟨_, rfl, _, _, rfl, rfl, _, rfl, iteT (none_out hn)⟩
    · rintro σ H2 ⟨a, v4, rfl, rfl, hc, ha⟩
      have k0 := k' H2 s1
      rw [List.length_map, show (inner.map tl).take inner.length = inner.map tl from List.take_of_length_le (by rw [List.length_map]; exact Nat.le_refl _)] at hc
      rw [hc] at k0
      refine ⟨_, rfl, _, rfl, _, _, rfl, rfl, ?_⟩
      rw [eend]
      show Q (.bl (decide ((a : Int) ≤ (e : Int)))) H2
      rw [show decide ((a : Int) ≤ (e : Int)) = decide (a ≤ e) by
        rw [Bool.eq_iff_iff, decide_eq_true_eq, decide_eq_true_eq]
        omega]
      exact k0
end

/-! ### lets_by and check -/
theorem seqA_of {K : PySem.W.Frag} {H H' : Hp} {a : Addr} {xs : List V} (e : Same H H') (h : SqA K H a xs) : SqA K H' a xs := by
  rcases h with h | h
  · exact .inl (e.seq h)
  · refine .inr ?_
    rcases h with h | h
    · rcases h with h | ⟨o, h⟩
      · exact .inl (.inl (e _ _ h))
      · exact .inl (.inr ⟨o, e _ _ h⟩)
    · exact .inr h
theorem tl_arr (l : List Nat) : tl ⟨l.toArray⟩ = l := rfl
theorem len_arr (l : List Nat) : (⟨l.toArray⟩ : Str).length = l.length := by rw [len_tl]
section
variable {P : Program} {w : World} {K : PySem.W.Frag} {mg : Str → Option Value} {base : Heap}
def sp_lets_by (K : PySem.W.Frag) : Sp := fun vs H Q _ => ∃ (x y : Str) (p : Addr) (xs : List Str), vs = [.str x, .str y, .ref p] ∧ x.length ≤ 1000000 ∧ y.length ≤ 1000000 ∧ SqA K H p (xs.map V.str) ∧ ∀ H', Same H H' → Q (.bl (letsF (tl x) (tl y) xs)) H'
theorem ok_lets_by {f : Addr} {fd : FuncData} {dvs : List V} (F : Fn K "lets_by" s_lets_by dvs f fd) (O_marks_emptied : Own P w K mg base "marks_emptied" 3 ["want"] [] (sp_marks_emptied)) (O_blanks_emptied : Own P w K mg base "blanks_emptied" 2 ["got"] [] (sp_blanks_emptied)) (O_words_joined : OwnT P w K mg base "words_joined" 2 ["text"] [] (sp_words_joined)) (O_has_pieces : Own P w K mg base "has_pieces" 1 ["pieces", "got"] [] (sp_has_pieces)) {t_DOTS : Tok} (c_DOTS : mg "DOTS" = some (.str "..." t_DOTS)) {t_ELLIPSIS : Tok} (c_ELLIPSIS : mg "ELLIPSIS" = some (.str "ELLIPSIS" t_ELLIPSIS)) {t_NORMALIZE : Tok} (c_NORMALIZE : mg "NORMALIZE" = some (.str "NORMALIZE_WHITESPACE" t_NORMALIZE)) {t_NO_BLANKLINE : Tok} (c_NO_BLANKLINE : mg "NO_BLANKLINE" = some (.str "DONT_ACCEPT_BLANKLINE" t_NO_BLANKLINE)) {t_ONE_IS_NOT_TRUE : Tok} (c_ONE_IS_NOT_TRUE : mg "ONE_IS_NOT_TRUE" = some (.str "DONT_ACCEPT_TRUE_FOR_1" t_ONE_IS_NOT_TRUE)) {a_TRUTHS : Addr} {es_TRUTHS : Array DictEntry} {n_TRUTHS : Nat} (c_TRUTHS : mg "TRUTHS" = some (.ref a_TRUTHS)) (kd_TRUTHS : KDict K w a_TRUTHS es_TRUTHS n_TRUTHS) (g_TRUTHS : ∀ z : Str, ∃ r, PySem.W.nsIn K a_TRUTHS z = some r ∧ RelV (v_TRUTHS z) (r.getD .none)) : FnT P w K mg base CX0 4 f fd ["want", "got", "flags"] (sp_lets_by K) := by
  refine Fn.okT F sc_lets_by (fun vs H Q E h => ?_) (fun cdv A outer s H vs Q E hr h => ?_)
  · obtain ⟨_, _, _, _, rfl, _⟩ := h
    rfl
  · obtain ⟨x, y, p, xs, rfl, lx, ly, hp, k⟩ := h
    refine ⟨_, (bt_cons (ST.of (ps_if (pt_cmpR op_eq (pv 0) (pv 1) (nomark _))
          (pss_one (ps_ret pe_bl))
          pss_nil))
      (bt_cut (ST.of (ps_if (PW.pt (pw_and (pt_cmpR op_notIn_seq (pe_glob (v := .str "DONT_ACCEPT_TRUE_FOR_1") rfl c_ONE_IS_NOT_TRUE ⟨_, rfl⟩) (pv 2) rfl) (pw_and1 (pt_cmpR op_eq (pe_kget kd_TRUTHS (pe_glob (v := .ref a_TRUTHS) rfl c_TRUTHS rfl) (pv 0) ⟨rfl, rfl, rfl, rfl⟩) (pv 1) (nomark _)))))
          (pss_one (ps_ret pe_bl))
          pss_nil))
      (bt_cut (ST.of (ps_if (pt_cmpR op_notIn_seq (pe_glob (v := .str "DONT_ACCEPT_BLANKLINE") rfl c_NO_BLANKLINE ⟨_, rfl⟩) (pv 2) rfl)
          (pss_cons (ps_set (i := 0) sc_lets_by.nd rfl (.inl rfl) (pe_own O_marks_emptied (hr.mono (by decide)) (by rfl) (pa_cons (pv 0) pa_nil)))
            (pss_one (ps_set (i := 1) sc_lets_by.nd rfl (.inl rfl) (pe_own O_blanks_emptied (hr.mono (by decide)) (by rfl) (pa_cons (pv 1) pa_nil)))))
          pss_nil))
      (bt_cut (st_if (TT'.of (pt_cmpR op_in_seq (pe_glob (v := .str "NORMALIZE_WHITESPACE") rfl c_NORMALIZE ⟨_, rfl⟩) (pv 2) rfl))
          (bt_cons (st_set (i := 0) sc_lets_by.nd rfl (.inl rfl) (et_own O_words_joined (hr.mono (by decide)) (by rfl) (AT.of (pa_cons (pv 0) pa_nil))))
            (bt_one (st_set (i := 1) sc_lets_by.nd rfl (.inl rfl) (et_own O_words_joined (hr.mono (by decide)) (by rfl) (AT.of (pa_cons (pv 1) pa_nil))))))
          bt_nil)
      (bt_cons (ST.of (ps_if (pt_cmpR op_eq (pv 0) (pv 1) (nomark _))
          (pss_one (ps_ret pe_bl))
          pss_nil))
      (bt_one (ST.of (ps_ret (pe_and (pe_cmpR op_in_seq (pe_glob (v := .str "ELLIPSIS") rfl c_ELLIPSIS ⟨_, rfl⟩) (pv 2) rfl) (pe_and (pe_cmpR op_in_str (pe_glob (v := .str "...") rfl c_DOTS ⟨_, rfl⟩) (pv 0) rfl) (pe_one (pe_own O_has_pieces (hr.mono (by decide)) (by rfl) (pa_cons (pe_m1 PySem.F.slot_str_split PySem.F.type_str_split mt_split (pv 0) (pe_glob (v := .str "...") rfl c_DOTS ⟨_, rfl⟩)) (pa_cons (pv 1) pa_nil)))))))))))))), ?_⟩
    have k0 : ∀ (H' : Hp) (b : Bool), Same H H' → letsF (tl x) (tl y) xs = b → Q (.bl b) H' := fun H' b s e => by rw [← e]; exact k H' s
    unfold letsF lets at k0
    -- equal texts
    refine ⟨.str x, rfl, .str y, rfl, rfl, _, rfl, ?_⟩
    rw [dec_strs]
    by_cases h1 : tl x = tl y
    · rw [decide_eq_true h1]
      exact iteT (k0 H true (fun _ _ e => e) (by rw [if_pos h1]))
    rw [decide_eq_false h1]
    rw [if_neg h1] at k0
    refine iteF ?_
    -- truths
    refine ⟨fun σ H1 => σ = [some (.str x), some (.str y), some (.ref p)] ∧ H1 = H ∧ (!has "DONT_ACCEPT_TRUE_FOR_1" xs && truth (tl x) (tl y)) = false, ?_, ?_⟩
    · obtain ⟨r, hr1, hr2⟩ := g_TRUTHS x
      refine ⟨.ref p, rfl, p, _, rfl, hp, rfl, flat_strs xs, _, rfl, ?_⟩
      rw [inV_str]
      cases ht : has "DONT_ACCEPT_TRUE_FOR_1" xs with
      | true => exact iteF (iteF ⟨rfl, rfl, rfl⟩)
      | false =>
        rw [ht] at k0
        refine iteT ⟨rfl, .str x, rfl, x, r, v_TRUTHS x, rfl, hr1, hr2, .str y, rfl, truth_scal x y, _, rfl, ?_⟩
        rw [truth_get]
        cases hc : truth (tl x) (tl y) with
        | true => exact iteT (k0 H true (fun _ _ e => e) (by rw [hc]; rfl))
        | false => exact iteF ⟨rfl, rfl, rfl⟩
    rintro σ1 H1 ⟨rfl, rfl, hc⟩
    rw [hc] at k0
    -- blank lines
    refine ⟨fun σ H2 => ∃ u v : Str, σ = [some (.str u), some (.str v), some (.ref p)] ∧ Same H1 H2 ∧ tl u = shownW (has "DONT_ACCEPT_BLANKLINE" xs) false (tl x) ∧ tl v = shownG (has "DONT_ACCEPT_BLANKLINE" xs) false (tl y), ?_, ?_⟩
    · refine ⟨.ref p, rfl, p, _, rfl, hp, rfl, flat_strs xs, _, rfl, ?_⟩
      rw [inV_str]
      cases hb : has "DONT_ACCEPT_BLANKLINE" xs with
      | true => exact iteF ⟨x, y, rfl, fun _ _ e => e, rfl, rfl⟩
      | false => exact iteT ⟨.str x, rfl, x, rfl, lx, fun H2 s2 => ⟨.str y, rfl, y, rfl, ly, fun H3 s3 => ⟨_, _, rfl, s2.trans s3, rfl, rfl⟩⟩⟩
    rintro σ2 H2 ⟨u, v, rfl, s2, hu, hv⟩
    have lu : u.length ≤ 1000000 := by
      rw [len_tl, hu]
      refine Nat.le_trans (shownW_len _ _ _) ?_
      rw [← len_tl]
      exact lx
    have lv : v.length ≤ 1000000 := by
      rw [len_tl, hv]
      refine Nat.le_trans (shownG_len _ _ _) ?_
      rw [← len_tl]
      exact ly
    -- words
    refine ⟨fun σ H3 => ∃ u v : Str, σ = [some (.str u), some (.str v), some (.ref p)] ∧ Same H1 H3 ∧ tl u = shownW (has "DONT_ACCEPT_BLANKLINE" xs) (has "NORMALIZE_WHITESPACE" xs) (tl x) ∧ tl v = shownG (has "DONT_ACCEPT_BLANKLINE" xs) (has "NORMALIZE_WHITESPACE" xs) (tl y), ?_, ?_⟩
    · refine ⟨.ref p, rfl, p, _, rfl, seqA_of s2 hp, rfl, flat_strs xs, _, rfl, ?_⟩
      rw [inV_str]
      cases hn : has "NORMALIZE_WHITESPACE" xs with
      | false => exact iteF ⟨u, v, rfl, s2, hu, hv⟩
      | true =>
        refine iteT ⟨.str u, rfl, u, rfl, lu, fun H3 s3 => ⟨.str v, rfl, v, rfl, lv, fun H4 s4 => ⟨_, _, rfl, s2.trans (s3.trans s4), ?_, ?_⟩⟩⟩
        · rw [tl_arr, hu]
          rfl
        · rw [tl_arr, hv]
          rfl
    rintro σ3 H3 ⟨u, v, rfl, s3, hu, hv⟩
    have lu : u.length ≤ 1000000 := by
      rw [len_tl, hu]
      refine Nat.le_trans (shownW_len _ _ _) ?_
      rw [← len_tl]
      exact lx
    have lv : v.length ≤ 1000000 := by
      rw [len_tl, hv]
      refine Nat.le_trans (shownG_len _ _ _) ?_
      rw [← len_tl]
      exact ly
    rw [← hu, ← hv, if_neg Bool.false_ne_true] at k0
    -- equal now
    refine ⟨.str u, rfl, .str v, rfl, rfl, _, rfl, ?_⟩
    rw [dec_strs]
    by_cases h2 : tl u = tl v
    · rw [decide_eq_true h2]
      exact iteT (k0 H3 true s3 (by rw [if_pos h2]))
    rw [decide_eq_false h2]
    rw [if_neg h2] at k0
    refine iteF ?_
    -- ellipses
    refine ⟨.ref p, rfl, p, _, rfl, seqA_of s3 hp, rfl, flat_strs xs, _, rfl, ?_⟩
    rw [inV_str]
    cases he : has "ELLIPSIS" xs with
    | false => exact iteF (k0 H3 false s3 (by rw [he]; rfl))
    | true =>
      rw [he] at k0
      refine iteT ⟨.str u, rfl, "...", u, rfl, rfl, _, rfl, ?_⟩
      rw [dt_eq, dots_in]
      by_cases h3 : 1 < (spl DT 0 [] (tl u)).length
      · rw [decide_eq_true h3]
        have es := splitOf u (y := DT) (by decide) (by decide)
        have h4 : 1 < (Txt.split u ⟨DT.toArray⟩).length := by
          rw [← es, List.length_map] at h3
          exact h3
        obtain ⟨f, inner, z, e3⟩ := three_parts h4
        have sm : ∀ y ∈ Txt.split u ⟨DT.toArray⟩, y.length ≤ 1000000 := fun y hy => Nat.le_trans (split_mem u (by decide) (by decide) hy) lu
        have e5 : byPieces (tl u) (tl v) = inOrder (tl f) (inner.map tl) (tl z) (tl v) := byPieces_parts (by rw [← es, e3])
        rw [e3] at sm
        refine iteT ⟨.str u, rfl, ⟨_, rfl⟩, u, ⟨DT.toArray⟩, rfl, rfl, by decide, by rw [sizeLine_eq]; omega, fun L nL => ?_⟩
        rw [e3]
        refine ⟨.str v, rfl, L, f, inner, z, v, rfl, upd_same, sm f (by simp), sm z (by simp), lv, fun y hy => sm y (by simp [hy]), fun H4 s4 => ?_⟩
        exact k0 H4 _ (s3.trans ((same_new nL).trans s4)) (by rw [e5]; rfl)
      · rw [decide_eq_false h3]
        exact iteF (k0 H3 false s3 (by rw [byPieces_one h3]; rfl))
end

/-! ### a text, sign by sign; texts joined -/
theorem for_str {x : Str} {g : TG} {tb : TS} {D : Ends} {σ : L2.St} {H : Hp} (Pv : Nat → L2.St → Hp → Prop) (h0 : Pv 0 σ H)
    (hs : ∀ i c σ H, (tl x)[i]? = some c → Pv i σ H → g (.str ⟨#[c]⟩) σ H fun σ2 H2 => tb { D with nx := Pv (i + 1), ct := Pv (i + 1), bk := D.nx } σ2 H2) (hd : ∀ σ H, Pv (tl x).length σ H → D.nx σ H) :
    ∃ W : Nat → Nat → L2.St → Hp → Prop, (∃ m, W 0 m σ H) ∧ ∀ i m σ H, W i m σ H →
      ((Its x).stop i H ∧ D.nx σ H) ∨ ((Its x).go i H ∧ ∃ N : L2.St → Hp → Prop, (∀ σ' H', N σ' H' → ∃ m', m' < m ∧ W (i + 1) m' σ' H') ∧ ∀ y H', (Its x).yld i H y H' → g y σ H' fun σ2 H2 => tb { D with nx := N, ct := N, bk := D.nx } σ2 H2) := by
  have sz : x.cps.size = (tl x).length := by simp [tl]
  refine ⟨fun i m σ H => m = (tl x).length - i ∧ i ≤ (tl x).length ∧ Pv i σ H, ⟨(tl x).length, by simp, Nat.zero_le _, h0⟩, ?_⟩
  rintro i m σ H ⟨rfl, hi, p⟩
  by_cases hlt : i < (tl x).length
  · refine .inr ⟨by show i < x.cps.size; omega, Pv (i + 1), fun σ' H' p' => ⟨(tl x).length - (i + 1), by omega, rfl, hlt, p'⟩, fun y H' z => ?_⟩
    obtain ⟨e, c, hc, ey⟩ := z
    subst e ey
    exact hs i c σ _ (by rw [← hc]; simp [tl]) p
  · have e : i = (tl x).length := by omega
    subst e
    exact .inl ⟨by show x.cps.size ≤ (tl x).length; omega, hd σ H p⟩
theorem len_join (y : Str) (m : Nat) : ∀ ws : List Str, (∀ w ∈ ws, w.length ≤ m) → (Txt.join y ws).length ≤ (m + y.length) * ws.length := by
  intro ws h
  rw [join_eq, len_tl, tl_join]
  have hy : y.length = (tl y).length := len_tl y
  induction ws with
  | nil => exact Nat.zero_le _
  | cons a r ih =>
    have ha : (tl a).length ≤ m := by
      rw [← len_tl]
      exact h a (List.mem_cons_self ..)
    have ihr := ih fun w hw => h w (List.mem_cons_of_mem _ hw)
    cases r with
    | nil =>
      show (tl a).length ≤ (m + y.length) * 1
      omega
    | cons b r =>
      show (tl a ++ (tl y ++ joinL (tl y) ((b :: r).map tl))).length ≤ _
      rw [List.length_append, List.length_append, List.length_cons (a := a), Nat.mul_succ]
      omega
theorem sum_len (m : Nat) : ∀ ws : List Str, (∀ w ∈ ws, w.length ≤ m) → (ws.map (·.length)).sum ≤ m * ws.length
  | [], _ => Nat.zero_le _
  | a :: r, h => by
    have ih := sum_len m r fun w hw => h w (List.mem_cons_of_mem _ hw)
    have ha := h a (List.mem_cons_self ..)
    rw [List.map_cons, List.sum_cons, List.length_cons, Nat.mul_succ]
    omega

/-! ### the source of draws -/
/-- a source of draws stands at D: its two lists at A and B, so many draws made -/
structure Drw (H : Hp) (D A B : Addr) (n : Int) : Prop where
  ex : ∃ (as bs : List Int) (c : Int), H D = some (.lst [.ref A, .int c, .ref B, .int n]) ∧ H A = some (.lst (as.map V.int)) ∧ H B = some (.lst (bs.map V.int))
  ab : A ≠ B
  pos : 0 ≤ n
/-- all but what a draw may change stands as it stood -/
def Kept (D A : Addr) (H H' : Hp) : Prop := ∀ b o, H b = some o → b ≠ D → b ≠ A → H' b = some o
theorem Kept.refl {D A : Addr} {H : Hp} : Kept D A H H := fun _ _ e _ _ => e
theorem Kept.trans {D A : Addr} {H H' H'' : Hp} (h : Kept D A H H') (k : Kept D A H' H'') : Kept D A H H'' := fun b o e n m => k b o (h b o e n m) n m
theorem Kept.of {D A : Addr} {H H' : Hp} (h : Same H H') : Kept D A H H' := fun b o e _ _ => h b o e
theorem Kept.upd {D A p : Addr} {o : HO} {H H' : Hp} (h : Kept D A H H') (hp : H p = none) : Kept D A H (L2.upd H' p o) := fun b x e n m => by
  rw [upd_ne (ne_of_none e hp)]
  exact h b x e n m
theorem Drw.same {H H' : Hp} {D A B : Addr} {n : Int} (h : Drw H D A B n) (k : Same H H') : Drw H' D A B n := by
  obtain ⟨⟨as, bs, c, h1, h2, h3⟩, h4, h5⟩ := h
  exact ⟨⟨as, bs, c, k _ _ h1, k _ _ h2, k _ _ h3⟩, h4, h5⟩
theorem Drw.tracked {H : Hp} {D A B : Addr} {n : Int} (h : Drw H D A B n) : (∃ o, H D = some o) ∧ (∃ o, H A = some o) ∧ ∃ o, H B = some o := by
  obtain ⟨⟨as, bs, c, h1, h2, h3⟩, h4, h5⟩ := h
  exact ⟨⟨_, h1⟩, ⟨_, h2⟩, ⟨_, h3⟩⟩
/-- a change at a third place -/
theorem Drw.upd {H : Hp} {D A B p : Addr} {o : HO} {n : Int} (h : Drw H D A B n) (hD : p ≠ D) (hA : p ≠ A) (hB : p ≠ B) : Drw (L2.upd H p o) D A B n := by
  obtain ⟨⟨as, bs, c, h1, h2, h3⟩, h4, h5⟩ := h
  exact ⟨⟨as, bs, c, by rw [upd_ne (Ne.symm hD)]; exact h1, by rw [upd_ne (Ne.symm hA)]; exact h2, by rw [upd_ne (Ne.symm hB)]; exact h3⟩, h4, h5⟩
theorem Drw.new {H : Hp} {D A B p : Addr} {o : HO} {n : Int} (h : Drw H D A B n) (hp : H p = none) : Drw (L2.upd H p o) D A B n := h.same (same_new hp)

theorem canLay_ints (ns : List Int) : PyData.canLayAll0 (ns.map PyData.int) = true := by
  induction ns with
  | nil => rfl
  | cons x r ih => simpa [PyData.canLayAll0, PyData.canLay0] using ih
theorem depth_ints (ns : List Int) : PyData.depthAll (ns.map PyData.int) ≤ 1 := by
  induction ns with
  | nil => simp [PyData.depthAll]
  | cons x r ih => simp [PyData.depthAll, PyData.depth]; omega
theorem shaped_ints (ns : List Int) : SeqAt.shaped (.list (ns.map PyData.int)) = true := by
  have h1 := canLay_ints ns
  have h2 := depth_ints ns
  simp [SeqAt.shaped, PyData.canLay0, PyData.depth, h1]
  omega
theorem dp_ints {K : PySem.W.Frag} {H : Hp} : ∀ (ns : List Int), DpAll K H (ns.map V.int) (ns.map PyData.int)
  | [] => .nil
  | x :: r => .cons (.int x) (dp_ints r)
theorem eqv_nil (ns : List Int) : PyData.eqv (.list (ns.map PyData.int)) (.list []) = ns.isEmpty := by
  cases ns <;> simp [PyData.eqv, PyData.eqvAll]

section
variable {P : Program} {w : World} {K : PySem.W.Frag} {mg : Str → Option Value} {base : Heap}
/-! ### _law_mixed -/
def sp_law_mixed : Sp := fun vs H Q _ => ∃ (s k : Int), vs = [.int s, .int k] ∧ 0 ≤ k ∧ k < 4194304 ∧ ∀ r, Q (.int r) H
theorem ok_law_mixed {f : Addr} {fd : FuncData} {dvs : List V} (F : Fn K "_law_mixed" s_law_mixed dvs f fd) (m_int : mg "int" = none) : FnOk P w K mg base CX0 1 f fd ["seed", "k"] (sp_law_mixed) := by
  refine Fn.okN F sc_law_mixed (fun vs H Q E h => ?_) (fun cdv A outer s H vs Q E hr h => ?_)
  · obtain ⟨_, _, rfl, _⟩ := h
    rfl
  · obtain ⟨x, y, rfl, y0, y1, k⟩ := h
    refine ⟨_, (pss_cons (ps_set (i := 2) sc_law_mixed.nd rfl (.inl rfl) (pe_op op_mod (pe_callTy call_int1 (by rfl) m_int (by decide +kernel) (pa_cons (pe_op op_pow (pe_op op_add (pe_op op_add (pe_op op_mod (pe_callTy call_int1 (by rfl) m_int (by decide +kernel) (pa_cons (pv 0) pa_nil)) pe_int) (pe_op op_mul pe_int (pv 1))) pe_int) pe_int) pa_nil)) pe_int))
      (pss_one (ps_ret (pe_op op_mod (pe_callTy call_int1 (by rfl) m_int (by decide +kernel) (pa_cons (pe_op op_pow (pe_op op_add (pe_op op_add (pe_op op_mul (pv 2) pe_int) (pe_op op_mul (pe_op op_mul pe_int (pv 1)) (pv 1))) pe_int) pe_int) pa_nil)) pe_int)))), ?_⟩
    have e1 : 0 ≤ x % 2147483647 := Int.emod_nonneg _ (by decide)
    have e2 : x % 2147483647 < 2147483647 := Int.emod_lt_of_pos _ (by decide)
    refine ⟨_, rfl, .inl ⟨x, rfl, _, _, rfl, rfl, (by show (0 : Int) < 2147483647; decide), _, rfl, _, _, rfl, rfl, .inl ⟨by decide, by decide⟩, _, _, rfl, rfl, _, _, rfl, rfl, _, _, rfl, rfl, ⟨by decide, by decide, ?_⟩, .inl ⟨_, rfl, _, _, rfl, rfl, (by show (0 : Int) < 2147483629; decide), ?_⟩⟩⟩
    · generalize x % 2147483647 = m at e1 e2
      omega
    have g1 : ∀ z : Int, 0 ≤ z % 2147483629 := fun z => Int.emod_nonneg _ (by decide)
    have g2 : ∀ z : Int, z % 2147483629 < 2147483629 := fun z => Int.emod_lt_of_pos _ (by decide)
    generalize hz : ((x % 2147483647 + 7919 * y + 104729) ^ (5 : Int).toNat) = z
    have z1 := g1 z
    have z2 := g2 z
    generalize z % 2147483629 = u at z1 z2
    have yy : 40503 * y * y ≤ 40503 * 4194304 * 4194304 := Int.mul_le_mul (by omega) (by omega) y0 (by decide)
    have yy0 : 0 ≤ 40503 * y * y := Int.mul_nonneg (by omega) y0
    refine ⟨_, rfl, _, _, rfl, rfl, .inl ⟨by omega, by omega⟩, _, rfl, _, _, rfl, rfl, .inl ⟨by decide, by decide⟩, _, rfl, _, _, rfl, rfl, .inl ⟨by omega, by omega⟩, _, _, rfl, rfl, _, _, rfl, rfl, _, _, rfl, rfl, ⟨by decide, by decide, ?_⟩, .inl ⟨_, rfl, _, _, rfl, rfl, (by show (0 : Int) < 1000000007; decide), ?_⟩⟩
    · generalize 40503 * y * y = q at yy yy0
      omega
    · exact k _
/-! ### _law_draws -/
def sp_law_draws (K : PySem.W.Frag) : Sp := fun vs H Q _ => ∃ (a : Addr) (ns : List Int), vs = [.ref a] ∧ SqL K H a (ns.map V.int) ∧ ns.length ≤ 63 ∧
  ∀ (H' : Hp) (D A B : Addr), Same H H' → Drw H' D A B 0 → H D = none → H A = none → Q (.ref D) H'
theorem ok_law_draws {f : Addr} {fd : FuncData} {dvs : List V} (F : Fn K "_law_draws" s_law_draws dvs f fd) : FnK P w K mg base CX0 1 f fd ["script"] (sp_law_draws K) := by
  refine Fn.okK F sc_law_draws (fun vs H Q E h => ?_) (fun cdv A outer s H vs Q E hr h => ?_)
  · obtain ⟨_, _, rfl, _⟩ := h
    rfl
  · obtain ⟨a, ns, rfl, hS, hl, k⟩ := h
    refine ⟨_, (bk_one (sk_ret (ek_lst (ak_there (pe_lc (own := [("item", 1)]) (g := gName 1) (by rfl) sc_law_draws.nd (pi_list (pv 0)) (blkOk_by (own := [("item", 1)]) (N := ["script", "item"]) (sc := defScope s_law_draws) (by decide +kernel)) (fun _ _ _ _ _ => (pg_name (i := 1) sc_law_draws.nd rfl (.inl rfl))) (fun _ _ _ _ _ => (pts_one (pt_cmpR op_ge (pv 1) (pe_op op_pow pe_int pe_int) (nomark _)))) (fun _ _ _ _ _ => (pv 1))) (ak_here ek_int (pa_cons (pe_lc (own := [("item", 1)]) (g := gName 1) (by rfl) sc_law_draws.nd (pi_list (pv 0)) (blkOk_by (own := [("item", 1)]) (N := ["script", "item"]) (sc := defScope s_law_draws) (by decide +kernel)) (fun _ _ _ _ _ => (pg_name (i := 1) sc_law_draws.nd rfl (.inl rfl))) (fun _ _ _ _ _ => (pts_one (pt_cmpR op_lt (pv 1) (pe_op op_pow pe_int pe_int) (nomark _)))) (fun _ _ _ _ _ => (pv 1))) (pa_cons pe_int pa_nil))))))), ?_⟩
    refine ⟨_, rfl, a, rfl, ⟨_, hS⟩, fun A1 nA => lc_list (K := K) (a := a) (xs := ns.map V.int) (fun i H2 => ∃ acc : List Int, acc.length ≤ i ∧ H2 A1 = some (.lst (acc.map V.int)) ∧ Same H H2)
      ⟨[], Nat.le_refl _, upd_same, same_new nA⟩ (fun i H2 _ h2 => by obtain ⟨_, _, _, s2⟩ := h2; exact s2.seq hS) ?_ ?_⟩
    · rintro i x H2 hi ⟨acc, l2, e2, s2⟩
      obtain ⟨z, rfl⟩ := int_at hi
      have hil : i < (ns.map V.int).length := (List.getElem?_eq_some_iff.mp hi).1
      rw [List.length_map] at hil
      refine ⟨rfl, _, rfl, _, _, rfl, rfl, ⟨by decide, by decide, by decide⟩, _, _, rfl, rfl, _, rfl, ite2 (fun _ => ?_) (fun _ => ?_)⟩
      · refine ⟨_, rfl, _, e2, by rw [List.length_map]; exact small1000 (by omega), acc ++ [z], by rw [List.length_append]; exact Nat.succ_le_succ l2, ?_, fun b o e => ?_⟩
        · rw [upd_same, List.map_append]
          rfl
        · rw [upd_ne (ne_of_none e nA)]
          exact s2 b o e
      · exact ⟨acc, by omega, e2, s2⟩
    · rintro H2 ⟨as, l2, e2, s2⟩
      refine ⟨_, rfl, a, rfl, ⟨_, s2.seq hS⟩, fun B1 nB => lc_list (K := K) (a := a) (xs := ns.map V.int) (fun i H3 => ∃ acc : List Int, acc.length ≤ i ∧ H3 B1 = some (.lst (acc.map V.int)) ∧ Same H2 H3)
        ⟨[], Nat.le_refl _, upd_same, same_new nB⟩ (fun i H3 _ h3 => by obtain ⟨_, _, _, s3⟩ := h3; exact (s2.trans s3).seq hS) ?_ ?_⟩
      · rintro i x H3 hi ⟨acc, l3, e3, s3⟩
        obtain ⟨z, rfl⟩ := int_at hi
        have hil : i < (ns.map V.int).length := (List.getElem?_eq_some_iff.mp hi).1
        rw [List.length_map] at hil
        refine ⟨rfl, _, rfl, _, _, rfl, rfl, ⟨by decide, by decide, by decide⟩, _, _, rfl, rfl, _, rfl, ite2 (fun _ => ?_) (fun _ => ?_)⟩
        · refine ⟨_, rfl, _, e3, by rw [List.length_map]; exact small1000 (by omega), acc ++ [z], by rw [List.length_append]; exact Nat.succ_le_succ l3, ?_, fun b o e => ?_⟩
          · rw [upd_same, List.map_append]
            rfl
          · rw [upd_ne (ne_of_none e nB)]
            exact s3 b o e
        · exact ⟨acc, by omega, e3, s3⟩
      · rintro H3 ⟨bs, l3, e3, s3⟩
        have eA := s3 _ _ e2
        have nAB : A1 ≠ B1 := ne_of_none e2 nB
        refine ⟨by show 4 ≤ sizeLine; decide, fun D1 nD => ?_⟩
        have s4 := same_new (o := .lst [.ref A1, .int 0, .ref B1, .int 0]) nD
        refine k _ D1 A1 B1 (s2.trans (s3.trans s4)) ⟨⟨as, bs, 0, upd_same, s4 _ _ eA, s4 _ _ e3⟩, nAB, Int.le_refl _⟩ ((s2.trans s3).free nD) nA
/-! ### _law_take -/
def sp_law_take : Sp := fun vs H Q _ => ∃ (D A B : Addr) (n size : Int), vs = [.ref D, .int size] ∧ Drw H D A B n ∧ n < 1000000 ∧ 1 ≤ size ∧ size < 1073741824 ∧
  ∀ (r : Int) (H' : Hp), 0 ≤ r → r < size → Drw H' D A B (n + 1) → Kept D A H H' → Q (.int r) H'
/-- within a draw -/
structure Mids (H : Hp) (D A B : Addr) (m : Int) (H1 : Hp) : Prop where
  ex : ∃ (as bs : List Int) (c : Int), H1 D = some (.lst [.ref A, .int c, .ref B, .int m]) ∧ H1 A = some (.lst (as.map V.int)) ∧ H1 B = some (.lst (bs.map V.int))
  kp : Kept D A H H1
theorem ok_law_take {f : Addr} {fd : FuncData} {dvs : List V} (F : Fn K "_law_take" s_law_take dvs f fd) (O_law_mixed : Own P w K mg base "_law_mixed" 1 ["seed", "k"] [] (sp_law_mixed)) (m_int : mg "int" = none) (m_len : mg "len" = none) : FnOk P w K mg base CX0 2 f fd ["draws", "size"] (sp_law_take) := by
  refine Fn.okN F sc_law_take (fun vs H Q E h => ?_) (fun cdv A outer s H vs Q E hr h => ?_)
  · obtain ⟨_, _, _, _, _, rfl, _⟩ := h
    rfl
  · obtain ⟨D, A1, B, n, size, rfl, ⟨⟨as, bs, c, hD, hA, hB⟩, nAB, n0⟩, hn, z0, z1, k⟩ := h
    refine ⟨_, (pss_cons (ps_asg (pe_op op_add (pe_ix ix_list (pv 0) pe_int (fun _ _ => rfl)) pe_int) (pg_sub (pv 0) pe_int set_list))
      (pss_cut (ps_if (PW.pt (pw_and (pt_cmpR op_eq (pe_ix ix_list (pv 0) pe_int (fun _ _ => rfl)) pe_int (nomark _)) (pw_and1 (pt_cmpR (op_neD hr.units) (pe_ix ix_list (pv 0) pe_int (fun _ _ => rfl)) (pe_lst pa_nil) (nomark _)))))
          (pss_one (ps_asg (pe_bm PySem.F.plainAttrs_list PySem.F.slot_list_pop PySem.F.type_list_pop mt_popAt (pe_ix ix_list (pv 0) pe_int (fun _ _ => rfl)) (pa_cons pe_int pa_nil)) (pg_sub (pv 0) pe_int set_list)))
          pss_nil)
      (pss_cons (ps_if (pt_cmpR op_gt (pe_ix ix_list (pv 0) pe_int (fun _ _ => rfl)) pe_int (nomark _))
          (pss_cons (ps_set (i := 2) sc_law_take.nd rfl (.inl rfl) (pe_op op_mod (pe_callTy call_int1 (by rfl) m_int (by decide +kernel) (pa_cons (pe_ix ix_list (pv 0) pe_int (fun _ _ => rfl)) pa_nil)) (pv 1)))
            (pss_cons (ps_asg (pe_op op_fdivN (pe_ix ix_list (pv 0) pe_int (fun _ _ => rfl)) (pv 1)) (pg_sub (pv 0) pe_int set_list))
            (pss_one (ps_ret (pv 2)))))
          pss_nil)
      (pss_cons (ps_set (i := 3) sc_law_take.nd rfl (.inl rfl) pe_int)
      (pss_cut (ps_if (pt_cmpR (op_neD hr.units) (pe_ix ix_list (pv 0) pe_int (fun _ _ => rfl)) (pe_lst pa_nil) (nomark _))
          (pss_one (ps_set (i := 3) sc_law_take.nd rfl (.inl rfl) (pe_ix ix_list (pe_ix ix_list (pv 0) pe_int (fun _ _ => rfl)) (pe_op op_mod (pe_callTy call_int1 (by rfl) m_int (by decide +kernel) (pa_cons (pe_ix ix_list (pv 0) pe_int (fun _ _ => rfl)) pa_nil)) (pe_callB call_len_seq (by rfl) m_len PySem.boot_len (pa_cons (pe_ix ix_list (pv 0) pe_int (fun _ _ => rfl)) pa_nil))) (fun _ _ => rfl))))
          pss_nil)
      (pss_cons (ps_set (i := 2) sc_law_take.nd rfl (.inl rfl) pe_int)
      (pss_cons (ps_set (i := 4) sc_law_take.nd rfl (.inl rfl) pe_int)
      (pss_cons (ps_while PassesOwn.never (pt_cmpR op_lt (pv 4) (pv 1) (nomark _))
          (pss_cons (ps_set (i := 2) sc_law_take.nd rfl (.inl rfl) (pe_op op_add (pe_op op_mul (pv 2) pe_int) (pe_own O_law_mixed (hr.mono (by decide)) (by rfl) (pa_cons (pv 3) (pa_cons (pe_op op_add (pe_ix ix_list (pv 0) pe_int (fun _ _ => rfl)) (pe_op op_mul pe_int (pe_op op_mod (pe_callTy call_int1 (by rfl) m_int (by decide +kernel) (pa_cons (pv 2) pa_nil)) pe_int))) pa_nil)))))
            (pss_one (ps_set (i := 4) sc_law_take.nd rfl (.inl rfl) (pe_op op_mul (pv 4) pe_int)))))
      (pss_one (ps_ret (pe_op op_mod (pe_callTy call_int1 (by rfl) m_int (by decide +kernel) (pa_cons (pv 2) pa_nil)) (pv 1)))))))))))), ?_⟩
    have nDA : D ≠ A1 := fun e => by
      rw [e, hA] at hD
      cases as <;> cases hD
    have nDB : D ≠ B := fun e => by
      rw [e, hB] at hD
      cases bs <;> cases hD
    -- one more draw
    refine ⟨.ref D, rfl, D, _, 3, .int n, rfl, rfl, SqL.of hD, atI_nat (j := 3) rfl, n, 1, rfl, rfl, .ref D, rfl, D, _, 3, 3, rfl, rfl, hD, rfl, ?_⟩
    have hD1 : (upd H D (.lst ([V.ref A1, .int c, .ref B, .int n].set 3 (.int (n + 1))))) D = some (.lst [V.ref A1, .int c, .ref B, .int (n + 1)]) := upd_same
    have hA1 : (upd H D (.lst ([V.ref A1, .int c, .ref B, .int n].set 3 (.int (n + 1))))) A1 = some (.lst (as.map V.int)) := by rw [upd_ne nDA.symm]; exact hA
    have hB1 : (upd H D (.lst ([V.ref A1, .int c, .ref B, .int n].set 3 (.int (n + 1))))) B = some (.lst (bs.map V.int)) := by rw [upd_ne nDB.symm]; exact hB
    have k1 : Kept D A1 H (upd H D (.lst ([V.ref A1, .int c, .ref B, .int n].set 3 (.int (n + 1))))) := fun b o e n1 _ => by rw [upd_ne n1]; exact e
    generalize upd H D (.lst ([V.ref A1, .int c, .ref B, .int n].set 3 (.int (n + 1)))) = H1 at hD1 hA1 hB1 k1
    clear hD hA hB
    -- the next of the great cells
    refine ⟨fun σ H2 => σ = [some (.ref D), some (.int size), none, none, none] ∧ Mids H D A1 B (n + 1) H2, ?_, ?_⟩
    · refine ⟨.ref D, rfl, D, _, 1, .int c, rfl, rfl, SqL.of hD1, atI_nat (j := 1) rfl, rfl, _, rfl, ?_⟩
      refine ite2 (fun _ => ?_) (fun _ => ?_)
      · refine ⟨.ref D, rfl, D, _, 0, .ref A1, rfl, rfl, SqL.of hD1, atI_nat (j := 0) rfl, by decide, fun N1 nN => ?_⟩
        have s2 := same_new (o := .lst []) nN
        refine ⟨_, _, .lst (SqL.of (s2 _ _ hA1)) (dp_ints as), .lst (SqL.of upd_same) .nil, shaped_ints as, shaped_ints [], _, rfl, ?_⟩
        rw [eqv_nil]
        cases as with
        | nil => exact iteF ⟨rfl, ⟨[], bs, c, s2 _ _ hD1, s2 _ _ hA1, s2 _ _ hB1⟩, fun b o e n1 n2 => s2 _ _ (k1 b o e n1 n2)⟩
        | cons a r =>
          refine iteT ?_
          refine ⟨.ref D, rfl, D, _, 0, .ref A1, rfl, rfl, SqL.of (s2 _ _ hD1), atI_nat (j := 0) rfl, .inl ⟨rfl, _, SqL.of (s2 _ _ hA1)⟩, A1, _, 0, 0, .int a, rfl, rfl, s2 _ _ hA1, by decide, by decide, ?_, rfl, ?_⟩
          · refine (ixN_seq (j := 0) ?_).1
            unfold ixN
            rw [if_pos (by decide), if_pos (by rw [List.length_map, List.length_cons]; omega)]
            rfl
          · refine ⟨.ref D, rfl, D, _, 1, 1, rfl, rfl, by rw [upd_ne nDA]; exact s2 _ _ hD1, rfl, rfl, ⟨r, bs, a, upd_same, ?_, ?_⟩, fun b o e n1 n2 => ?_⟩
            · rw [upd_ne nDA.symm, upd_same]
              rfl
            · rw [upd_ne nDB.symm, upd_ne nAB.symm]
              exact s2 _ _ hB1
            · rw [upd_ne n1, upd_ne n2]
              exact s2 _ _ (k1 b o e n1 n2)
      · exact ⟨rfl, ⟨as, bs, c, hD1, hA1, hB1⟩, k1⟩
    rintro σ2 H2 ⟨rfl, ⟨as2, bs2, c2, hD2, hA2, hB2⟩, k2⟩
    clear hD1 hA1 hB1 k1
    -- digits of a great cell
    refine ⟨.ref D, rfl, D, _, 1, .int c2, rfl, rfl, SqL.of hD2, atI_nat (j := 1) rfl, _, _, rfl, rfl, _, rfl, ite2 (fun _ => ?_) (fun _ => ?_)⟩
    · refine ⟨.ref D, rfl, D, _, 1, .int c2, rfl, rfl, SqL.of hD2, atI_nat (j := 1) rfl, .inl ⟨c2, rfl, _, rfl, _, _, rfl, rfl, (by show (0 : Int) < size; omega), ?_⟩⟩
      refine ⟨.ref D, rfl, D, _, 1, .int c2, rfl, rfl, SqL.of hD2, atI_nat (j := 1) rfl, _, rfl, c2, size, rfl, rfl, ⟨by omega, by omega⟩, .ref D, rfl, D, _, 1, 1, rfl, rfl, hD2, rfl, ?_⟩
      refine ⟨_, rfl, ?_⟩
      refine k _ _ (Int.emod_nonneg _ (by omega)) (Int.emod_lt_of_pos _ (by omega)) ⟨⟨as2, bs2, c2.fdiv size, upd_same, ?_, ?_⟩, nAB, by omega⟩ (fun b o e n1 n2 => ?_)
      · rw [upd_ne nDA.symm]
        exact hA2
      · rw [upd_ne nDB.symm]
        exact hB2
      · rw [upd_ne n1]
        exact k2 b o e n1 n2
    -- a seed
    refine ⟨fun σ H3 => ∃ sd : Int, σ = [some (.ref D), some (.int size), none, some (.int sd), none] ∧ Mids H D A1 B (n + 1) H3, ?_, ?_⟩
    · refine ⟨.ref D, rfl, D, _, 2, .ref B, rfl, rfl, SqL.of hD2, atI_nat (j := 2) rfl, by decide, fun N1 nN => ?_⟩
      have s3 := same_new (o := .lst []) nN
      refine ⟨_, _, .lst (SqL.of (s3 _ _ hB2)) (dp_ints bs2), .lst (SqL.of upd_same) .nil, shaped_ints bs2, shaped_ints [], _, rfl, ?_⟩
      rw [eqv_nil]
      have M3 : Mids H D A1 B (n + 1) (upd H2 N1 (.lst [])) := ⟨⟨as2, bs2, c2, s3 _ _ hD2, s3 _ _ hA2, s3 _ _ hB2⟩, fun b o e n1 n2 => s3 _ _ (k2 b o e n1 n2)⟩
      cases bs2 with
      | nil => exact iteF ⟨17, rfl, M3⟩
      | cons b r =>
        refine iteT ?_
        have hp : (0 : Int) < (((b :: r).map V.int).length : Int) := by
          rw [List.length_map, List.length_cons]
          omega
        have m0 := Int.emod_nonneg (n + 1) (show (((b :: r).map V.int).length : Int) ≠ 0 by omega)
        have m1 := Int.emod_lt_of_pos (n + 1) hp
        obtain ⟨j, hj⟩ : ∃ j : Nat, (n + 1) % (((b :: r).map V.int).length : Int) = (j : Int) := ⟨_, (Int.toNat_of_nonneg m0).symm⟩
        have jl : j < (b :: r).length := by
          rw [hj, List.length_map] at m1
          omega
        refine ⟨.ref D, rfl, D, _, 2, .ref B, rfl, rfl, SqL.of (s3 _ _ hD2), atI_nat (j := 2) rfl, .ref D, rfl, D, _, 3, .int (n + 1), rfl, rfl, SqL.of (s3 _ _ hD2), atI_nat (j := 3) rfl, .inl ⟨n + 1, rfl, .ref D, rfl, D, _, 2, .ref B, rfl, rfl, SqL.of (s3 _ _ hD2), atI_nat (j := 2) rfl, B, _, rfl, .inl (SqL.of (s3 _ _ hB2)), _, _, rfl, rfl, hp, ?_⟩⟩
        refine ⟨B, _, _, .int ((b :: r)[j]'jl), rfl, rfl, SqL.of (s3 _ _ hB2), ?_, ⟨_, rfl, M3⟩⟩
        rw [hj]
        refine atI_nat ?_
        rw [List.getElem?_map, List.getElem?_eq_getElem jl]
        rfl
    rintro σ3 H3 ⟨sd, rfl, M3⟩
    obtain ⟨⟨as3, bs3, c3, hD3, hA3, hB3⟩, k3⟩ := id M3
    -- the loop
    refine while_by (fun σ H4 => ∃ fd rc : Int, σ = [some (.ref D), some (.int size), some (.int fd), some (.int sd), some (.int rc)] ∧ H4 = H3 ∧ 1 ≤ rc) (fun σ _ => match σ with | [_, _, _, _, some (.int rc)] => (size - rc).toNat | _ => 0) ⟨0, 1, rfl, rfl, by decide⟩ ?_ ?_
    · rintro σ H4 ⟨fd, rc, rfl, rfl, r1⟩
      refine ⟨_, rfl, _, rfl, _, _, rfl, rfl, _, rfl, ite2 (fun lt => ?_) (fun _ => ?_)⟩
      · have lt' : rc < size := of_decide_eq_true lt
        have q0 : 0 ≤ fd % 97 := Int.emod_nonneg _ (by decide)
        have q1 : fd % 97 < 97 := Int.emod_lt_of_pos _ (by decide)
        refine ⟨_, rfl, _, _, rfl, rfl, .inr ⟨by decide, by decide⟩, _, rfl, .ref D, rfl, D, _, 3, .int (n + 1), rfl, rfl, SqL.of hD3, atI_nat (j := 3) rfl, _, rfl, .inl ⟨_, rfl, _, _, rfl, rfl, (by show (0 : Int) < 97; decide), _, _, rfl, rfl, .inl ⟨by decide, by decide⟩, _, _, rfl, rfl, _, _, rfl, ?_, ?_, fun r => ?_⟩⟩
        · generalize fd % 97 = q at q0 q1
          omega
        · generalize fd % 97 = q at q0 q1
          omega
        · refine ⟨_, _, rfl, rfl, _, rfl, _, _, rfl, rfl, .inr ⟨by decide, by decide⟩, ⟨_, _, rfl, rfl, by omega⟩, ?_⟩
          show (size - rc * 1000000007).toNat < (size - rc).toNat
          omega
      · refine ⟨_, rfl, .inl ⟨_, rfl, _, rfl, _, _, rfl, rfl, (by show (0 : Int) < size; omega), ?_⟩⟩
        exact k _ _ (Int.emod_nonneg _ (by omega)) (Int.emod_lt_of_pos _ (by omega)) ⟨⟨as3, bs3, c3, hD3, hA3, hB3⟩, nAB, by omega⟩ k3
    · rintro σ H4 Q1 Q2 i ⟨v, e1, w, e2, i1, j1, e3, e4, b, e5, q⟩
      exact ⟨v, e1, w, e2, i1, j1, e3, e4, b, e5, i _ _ q⟩

/-! ### _law_pick -/
/-- a list or a tuple that no draw touches -/
def SeqO (H : Hp) (p : Addr) (xs : List V) : Prop := H p = some (.lst xs) ∨ H p = some (.tup xs)
theorem SeqO.same {H H' : Hp} {p : Addr} {xs : List V} (h : SeqO H p xs) (k : Same H H') : SeqO H' p xs := h.elim (fun e => .inl (k _ _ e)) (fun e => .inr (k _ _ e))
theorem SeqO.kept {H H' : Hp} {p D A : Addr} {xs : List V} (h : SeqO H p xs) (k : Kept D A H H') (n1 : p ≠ D) (n2 : p ≠ A) : SeqO H' p xs := h.elim (fun e => .inl (k _ _ e n1 n2)) (fun e => .inr (k _ _ e n1 n2))
def sp_law_pick : Sp := fun vs H Q _ => ∃ (D A B p : Addr) (n : Int) (xs : List V), vs = [.ref D, .ref p] ∧ Drw H D A B n ∧ n < 1000000 ∧ SeqO H p xs ∧ p ≠ D ∧ p ≠ A ∧ 1 ≤ xs.length ∧ xs.length < 1000000 ∧
  ∀ (i : Nat) (v : V) (H' : Hp), xs[i]? = some v → Drw H' D A B (n + 1) → Kept D A H H' → Q v H'
theorem ok_law_pick {f : Addr} {fd : FuncData} {dvs : List V} (F : Fn K "_law_pick" s_law_pick dvs f fd) (O_law_take : Own P w K mg base "_law_take" 2 ["draws", "size"] [] (sp_law_take)) (m_len : mg "len" = none) : FnOk P w K mg base CX0 3 f fd ["draws", "some"] (sp_law_pick) := by
  refine Fn.okN F sc_law_pick (fun vs H Q E h => ?_) (fun cdv A outer s H vs Q E hr h => ?_)
  · obtain ⟨_, _, _, _, _, _, rfl, _⟩ := h
    rfl
  · obtain ⟨D, A1, B, p, n, xs, rfl, dr, hn, hp, pD, pA, l0, l1, k⟩ := h
    refine ⟨_, (pss_one (ps_ret (pe_ix ix_seq (pv 1) (pe_own O_law_take (hr.mono (by decide)) (by rfl) (pa_cons (pv 0) (pa_cons (pe_callB call_len_seq (by rfl) m_len PySem.boot_len (pa_cons (pv 1) pa_nil)) pa_nil))) (fun _ _ => rfl)))), ?_⟩
    refine ⟨.ref p, rfl, .ref D, rfl, .ref p, rfl, p, xs, rfl, hp.elim (fun e => .inl (SqL.of e)) (fun e => .inr (SqT.of e)), D, A1, B, n, (xs.length : Int), rfl, dr, hn, by omega, by omega, fun r H' r0 r1 dr' kp => ?_⟩
    obtain ⟨j, rfl⟩ : ∃ j : Nat, r = (j : Int) := ⟨_, (Int.toNat_of_nonneg r0).symm⟩
    have jl : j < xs.length := by omega
    have g : xs[j]? = some xs[j] := List.getElem?_eq_getElem jl
    rcases hp.kept kp pD pA with e | e
    · exact .inl ⟨p, xs, (j : Int), xs[j], rfl, rfl, SqL.of e, atI_nat g, k j _ _ g dr' kp⟩
    · exact .inr (.inl ⟨p, xs, (j : Int), xs[j], rfl, rfl, SqT.of e, atI_nat g, k j _ _ g dr' kp⟩)
end

/-! ### the law's own look: lines, words, pieces -/
theorem lc_str {x : Str} {g : TG} {tt : TT} {te : TE} {vs : List Nat} {σ : L2.St} {H1 : Hp} {D : Addr} {Qd : Hp → Prop} (Pv : Nat → Hp → Prop) (h0 : Pv 0 (upd H1 D (.lst [])))
    (hs : ∀ i c H, (tl x)[i]? = some c → Pv i H → g (.str ⟨#[c]⟩) (wipe σ vs) H fun σ2 H2 => wipe σ2 vs = wipe σ vs ∧ tt σ2 H2 fun b H3 =>
      if b = true then te σ2 H3 fun y H4 => ∃ acc, H4 D = some (.lst acc) ∧ acc.length < sizeLine ∧ Pv (i + 1) (upd H4 D (.lst (acc ++ [y]))) else Pv (i + 1) H3) (hd : ∀ H, Pv (tl x).length H → Qd H) :
    ∃ W : Nat → Nat → Hp → Prop, (∃ m, W 0 m (upd H1 D (.lst []))) ∧ ∀ i m H, W i m H →
      ((Its x).stop i H ∧ Qd H) ∨ ((Its x).go i H ∧ ∃ Nx : Hp → Prop, (∀ H', Nx H' → ∃ m', m' < m ∧ W (i + 1) m' H') ∧ ∀ y H', (Its x).yld i H y H' → g y (wipe σ vs) H' fun σ2 H2 => wipe σ2 vs = wipe σ vs ∧ tt σ2 H2 fun b H3 =>
        if b = true then te σ2 H3 fun y H4 => ∃ acc, H4 D = some (.lst acc) ∧ acc.length < sizeLine ∧ Nx (upd H4 D (.lst (acc ++ [y]))) else Nx H3) := by
  have sz : x.cps.size = (tl x).length := by simp [tl]
  refine ⟨fun i m H => m = (tl x).length - i ∧ i ≤ (tl x).length ∧ Pv i H, ⟨(tl x).length, by simp, Nat.zero_le _, h0⟩, ?_⟩
  rintro i m H ⟨rfl, hi, p⟩
  by_cases hlt : i < (tl x).length
  · refine .inr ⟨by show i < x.cps.size; omega, Pv (i + 1), fun H' p' => ⟨(tl x).length - (i + 1), by omega, rfl, hlt, p'⟩, fun y H' z => ?_⟩
    obtain ⟨e, c, hc, ey⟩ := z
    subst e ey
    exact hs i c _ (by rw [← hc]; simp [tl]) p
  · have e : i = (tl x).length := by omega
    subst e
    exact .inl ⟨by show x.cps.size ≤ (tl x).length; omega, hd H p⟩
/-- all signs are signs -/
def okS (x : Str) : Prop := strOkL (tl x) = true
where strOkL (l : List Nat) : Bool := l.all (· < 1114112)
theorem okS_iff {x : Str} : okS x ↔ ∀ c ∈ tl x, c < 1114112 := by
  unfold okS okS.strOkL
  rw [List.all_eq_true]
  exact ⟨fun h c hc => of_decide_eq_true (h c hc), fun h c hc => decide_eq_true (h c hc)⟩
theorem okS_str {x : Str} (h : okS x) : PyData.strOk x = true := by
  unfold PyData.strOk
  rw [Array.all_eq_true_iff_forall_mem]
  intro c hc
  exact decide_eq_true (okS_iff.mp h c (Array.mem_toList_iff.mpr hc))
theorem dp_strs {K : PySem.W.Frag} {H : Hp} : ∀ (ns : List Str), DpAll K H (ns.map V.str) (ns.map PyData.str)
  | [] => .nil
  | x :: r => .cons (.str x) (dp_strs r)
theorem canLay_strs (ns : List Str) (h : ∀ x ∈ ns, okS x) : PyData.canLayAll0 (ns.map PyData.str) = true := by
  induction ns with
  | nil => rfl
  | cons x r ih =>
    have h1 := okS_str (h x (List.mem_cons_self ..))
    have h2 := ih fun y hy => h y (List.mem_cons_of_mem _ hy)
    simp only [List.map_cons, PyData.canLayAll0, PyData.canLay0, Bool.and_eq_true]
    exact ⟨h1, h2⟩
theorem depth_strs (ns : List Str) : PyData.depthAll (ns.map PyData.str) ≤ 1 := by
  induction ns with
  | nil => simp [PyData.depthAll]
  | cons x r ih => simp [PyData.depthAll, PyData.depth]; omega
theorem shaped_strs (ns : List Str) (h : ∀ x ∈ ns, okS x) : SeqAt.shaped (.list (ns.map PyData.str)) = true := by
  have h1 := canLay_strs ns h
  have h2 := depth_strs ns
  simp [SeqAt.shaped, PyData.canLay0, PyData.depth, h1]
  omega
theorem eqv_nilS (ns : List Str) : PyData.eqv (.list (ns.map PyData.str)) (.list []) = ns.isEmpty := by
  cases ns <;> simp [PyData.eqv, PyData.eqvAll]
theorem upd_upd {H : Hp} {p : Addr} {o o' : HO} : upd (upd H p o) p o' = upd H p o' := by
  funext q
  by_cases e : q = p
  · rw [e, upd_same, upd_same]
  · rw [upd_ne e, upd_ne e, upd_ne e]
theorem blank_signs (y : Str) : (((tl y).filter fun c => !(c == 32 || c == 9)).map fun c => (⟨#[c]⟩ : Str)).isEmpty = isBlank (tl y) := by
  unfold isBlank
  induction tl y with
  | nil => rfl
  | cons c r ih =>
    rw [List.filter_cons, List.all_cons]
    cases h : (c == 32 || c == 9) with
    | true => exact ih
    | false => rfl
theorem in_blanks (c : Nat) : decide (c ∈ (" \t" : Str).cps.toList) = (c == 32 || c == 9) := by
  have e : (" \t" : Str).cps.toList = [32, 9] := by decide +kernel
  rw [e, Bool.eq_iff_iff]
  simp
theorem in_white (c : Nat) : decide (c ∈ (" \t\n" : Str).cps.toList) = (c == 32 || (c == 9 || c == 10)) := by
  have e : (" \t\n" : Str).cps.toList = [32, 9, 10] := by decide +kernel
  rw [e, Bool.eq_iff_iff]
  simp
theorem split_ok {x : Str} {y : List Nat} (hy : y ≠ []) (h : y.all (· < 256) = true) (hx : okS x) {z : Str} (hz : z ∈ Txt.split x ⟨y.toArray⟩) : okS z := by
  rw [okS_iff] at hx ⊢
  intro c hc
  refine hx c ?_
  have e := joinL_spl (tl x) hy h
  rw [← splitOf x hy h] at e
  have : ∀ ps : List Str, z ∈ ps → c ∈ joinL y (ps.map tl) := by
    intro ps
    induction ps with
    | nil => intro h; cases h
    | cons a r ih =>
      intro h
      cases r with
      | nil =>
        have : z = a := by simpa using h
        subst this
        exact hc
      | cons b r =>
        show c ∈ tl a ++ (y ++ joinL y ((b :: r).map tl))
        rcases List.mem_cons.mp h with e | e
        · subst e
          exact List.mem_append_left _ hc
        · exact List.mem_append_right _ (List.mem_append_right _ (ih e))
  have := this _ hz
  rw [e] at this
  exact this
section
variable {P : Program} {w : World} {K : PySem.W.Frag} {mg : Str → Option Value} {base : Heap}
def clearedL (b : Bool) (l : List Nat) : Bool := if b = true then isMark l else isBlank l
def sp_law_cleared : Sp := fun vs H Q _ => ∃ (x : Str) (b : Bool), vs = [.str x, .bl b] ∧ x.length ≤ 1000000 ∧ okS x ∧ ∀ H', Same H H' → Q (.str ⟨(if b = true then marksOf (tl x) else blanksOf (tl x)).toArray⟩) H'
theorem ok_law_cleared {f : Addr} {fd : FuncData} {dvs : List V} (F : Fn K "_law_cleared" s_law_cleared dvs f fd) : FnOk P w K mg base CX0 1 f fd ["text", "is_want"] (sp_law_cleared) := by
  refine Fn.okN F sc_law_cleared (fun vs H Q E h => ?_) (fun cdv A outer s H vs Q E hr h => ?_)
  · obtain ⟨_, _, rfl, _⟩ := h
    rfl
  · obtain ⟨x, b, rfl, hx, ok, k⟩ := h
    refine ⟨_, (pss_cons (ps_set (i := 2) sc_law_cleared.nd rfl (.inl rfl) (pe_lst pa_nil))
      (pss_cons (ps_for PassesOwn.never rfl (pi_list (pe_m1 PySem.F.slot_str_split PySem.F.type_str_split mt_split (pv 0) pe_str)) (pg_name (i := 3) sc_law_cleared.nd rfl (.inl rfl))
          (pss_cut (ps_set (i := 4) sc_law_cleared.nd rfl (.inl rfl) (pe_ifExp (PW.pt (pw_and (pt_val (pv 1)) (pw_and1 (pt_cmpR op_eq (pe_slice sl_str (pv 3) po_none (po_some pe_int)) pe_str (nomark _))))) (pe_slice sl_str (pv 3) (po_some pe_int) po_none) (pv 3)))
            (pss_cons (ps_set (i := 5) sc_law_cleared.nd rfl (.inl rfl) (pe_cmpR (op_eqD hr.units) (pe_lc (own := [("sign", 6)]) (g := gName 6) (by rfl) sc_law_cleared.nd (pi_str (pv 4)) (blkOk_by (own := [("sign", 6)]) (N := ["text", "is_want", "found", "line", "bare", "is_bare", "sign"]) (sc := defScope s_law_cleared) (by decide +kernel)) (fun _ _ _ _ _ => (pg_name (i := 6) sc_law_cleared.nd rfl (.inl rfl))) (fun _ _ _ _ _ => (pts_one (pt_cmpR op_notIn_sign (pv 6) pe_str rfl))) (fun _ _ _ _ _ => (pv 6))) (pe_lst pa_nil) (nomark _)))
            (pss_one (ps_expr (pe_bm PySem.F.plainAttrs_list PySem.F.slot_list_append PySem.F.type_list_append mt_append (pv 2) (pa_cons (pe_ifExp (PW.pt (pw_and (pt_val (pv 5)) (pw_and1 (PW.pt (pw_or (pt_not (pt_val (pv 1))) (pw_or1 (pt_cmpR op_eq (pe_slice sl_str (pv 3) po_none (po_some pe_int)) pe_str (nomark _)))))))) pe_str (pv 3)) pa_nil)))))))
      (pss_one (ps_ret (pe_m1 PySem.F.slot_str_join PySem.F.type_str_join mt_join pe_str (pv 2)))))), ?_⟩
    have s := split_sizes x (y := [10]) (by simp) (by decide)
    refine ⟨Nat.zero_le _, fun F nF => ?_⟩
    have s0 := same_new (o := .lst []) nF
    have eF0 : (upd H F (.lst [])) F = some (.lst []) := upd_same
    generalize upd H F (.lst []) = H0 at s0 eF0 ⊢
    refine ⟨.str x, rfl, ⟨_, rfl⟩, x, "\n", rfl, rfl, by decide +kernel, by rw [sizeLine_eq]; omega, fun p np => ⟨p, rfl, ⟨_, SqL.of upd_same⟩, ?_⟩⟩
    rw [nl_eq]
    have s1 := same_new (o := .lst ((Txt.split x ⟨[10].toArray⟩).map V.str)) np
    have e1 : (upd H0 p (.lst ((Txt.split x ⟨[10].toArray⟩).map V.str))) p = some (.lst ((Txt.split x ⟨[10].toArray⟩).map V.str)) := upd_same
    generalize upd H0 p (.lst ((Txt.split x ⟨[10].toArray⟩).map V.str)) = H1 at s1 e1 ⊢
    have pF : F ≠ p := ne_of_none eF0 np
    refine for_list (K := K) (a := p) (xs := (Txt.split x ⟨[10].toArray⟩).map V.str) (fun i σ H2 => ∃ v3 v4 v5 : Option V, σ = [some (.str x), some (.bl b), some (.ref F), v3, v4, v5, none] ∧ H2 F = some (.lst ((((Txt.split x ⟨[10].toArray⟩).take i).map (emptied (clearedL b))).map V.str)) ∧ H2 p = some (.lst ((Txt.split x ⟨[10].toArray⟩).map V.str)) ∧ Same H H2)
      ⟨none, none, none, rfl, s1 _ _ eF0, e1, s0.trans s1⟩ (fun i σ H2 _ h2 => by obtain ⟨_, _, _, _, _, h, _⟩ := h2; exact SqL.of h) ?_ ?_
    · rintro i v σ H2 hv ⟨v3, v4, v5, rfl, eF, ep, s2⟩
      obtain ⟨z, rfl, hz⟩ := str_at hv
      have hzm := List.mem_of_getElem? hz
      have zl := split_mem x (y := [10]) (by simp) (by decide) hzm
      have zo := split_ok (y := [10]) (by simp) (by decide) ok hzm
      -- bare
      refine ⟨fun σ H3 => H3 = H2 ∧ ∃ y : Str, σ = [some (.str x), some (.bl b), some (.ref F), some (.str z), some (.str y), v5, none] ∧ y.length ≤ z.length ∧ okS y ∧ (if b = true ∧ pre MK (tl z) = true then tl y = (tl z).drop 11 else y = z), ?_, ?_⟩
      · cases b with
        | false => exact ⟨_, rfl, false, rfl, iteF (iteF ⟨.str z, rfl, rfl, z, rfl, Nat.le_refl _, zo, by rw [if_neg (fun h => Bool.noConfusion h.1)]⟩)⟩
        | true =>
          refine ⟨_, rfl, true, rfl, iteT ⟨.str z, rfl, 10 + 1, rfl, z, rfl, line_of (by omega), rfl, _, rfl, ?_⟩⟩
          have e := cutS_to z 11
          rw [show (some ((11 : Nat) : Int)) = (some (10 + 1 : Int)) from rfl] at e
          rw [dec_strs, e, mk_eq, tl_arr]
          by_cases hm : (tl z).take 11 = MK
          · have hp : pre MK (tl z) = true := by
              show ((tl z).take 11 == MK) = true
              rw [hm]
              rfl
            rw [decide_eq_true hm]
            refine iteT ⟨.str z, rfl, 11, rfl, z, rfl, line_of (by omega), rfl, cutS z (some 11) none, rfl, cutS_length _ _ _, ?_, ?_⟩
            · rw [okS_iff] at zo ⊢
              intro c hc
              rw [show (some (11 : Int)) = some ((11 : Nat) : Int) from rfl, cutS_from] at hc
              exact zo c (List.mem_of_mem_drop hc)
            · rw [if_pos ⟨rfl, hp⟩]
              exact cutS_from z 11
          · have hp : ¬ pre MK (tl z) = true := fun h => hm (eq_of_beq h)
            rw [decide_eq_false hm]
            exact iteF ⟨.str z, rfl, rfl, z, rfl, Nat.le_refl _, zo, by rw [if_neg fun h => hp h.2]⟩
      rintro σ3 H3 ⟨rfl, y, rfl, ly, yo, hy⟩
      -- is_bare
      refine ⟨.str y, rfl, y, rfl, fun L nL => lc_str (fun i H4 => H4 L = some (.lst (((((tl y).take i).filter fun c => !(c == 32 || c == 9)).map fun c => (⟨#[c]⟩ : Str)).map V.str)) ∧ Same H3 H4) ⟨upd_same, same_new nL⟩ ?_ ?_⟩
      · rintro j c H4 hc ⟨eL, s4⟩
        have hj : j < (tl y).length := (List.getElem?_eq_some_iff.mp hc).1
        rw [← len_tl] at hj
        refine ⟨rfl, .str ⟨#[c]⟩, rfl, c, " \t", rfl, rfl, _, rfl, ?_⟩
        rw [in_blanks]
        have et := take_filter (fun c => !(c == 32 || c == 9)) hc
        cases hb : (c == 32 || c == 9) with
        | true =>
          rw [hb] at et
          refine iteF ⟨?_, s4⟩
          rw [et]
          show H4 L = some (.lst ((((((tl y).take j).filter fun c => !(c == 32 || c == 9)) ++ []).map fun c => (⟨#[c]⟩ : Str)).map V.str))
          rw [List.append_nil]
          exact eL
        | false =>
          rw [hb] at et
          have fl : (((tl y).take j).filter fun c => !(c == 32 || c == 9)).length ≤ j := Nat.le_trans (List.length_filter_le _ _) (List.length_take_le _ _)
          refine iteT ⟨.str ⟨#[c]⟩, rfl, _, eL, by rw [List.length_map, List.length_map, sizeLine_eq]; omega, ?_, fun b o e => ?_⟩
          · rw [upd_same, et, List.map_append, List.map_append]
            rfl
          · rw [upd_ne (ne_of_none e nL)]
            exact s4 b o e
      · rintro H4 ⟨eL, s4⟩
        rw [List.take_length] at eL
        refine ⟨Nat.zero_le _, fun N nN => ?_⟩
        have s5 := same_new (o := .lst []) nN
        refine ⟨_, _, .lst (SqL.of (s5 _ _ eL)) (dp_strs _), .lst (SqL.of upd_same) .nil, ?_, shaped_strs [] (by intro x h; cases h), ?_⟩
        · refine shaped_strs _ fun q hq => ?_
          obtain ⟨c, hc, rfl⟩ := List.mem_map.mp hq
          rw [okS_iff] at yo ⊢
          intro d hd
          have : d = c := by simpa [tl] using hd
          subst this
          exact yo _ (List.mem_filter.mp hc).1
        rw [eqv_nilS, blank_signs]
        -- found.append
        have s6 : Same H3 (upd H4 N (.lst [])) := s4.trans s5
        have eF' := s6 _ _ eF
        have ep' := s6 _ _ ep
        generalize upd H4 N (.lst []) = H5 at s6 eF' ep' ⊢
        have hi : i < (Txt.split x ⟨[10].toArray⟩).length := (List.getElem?_eq_some_iff.mp hz).1
        have fin : ∀ r : Str, r = emptied (clearedL b) z → (∃ v3 v4 v5 : Option V, [some (V.str x), some (.bl b), some (.ref F), some (.str z), some (.str y), some (.bl (isBlank (tl y))), none] = [some (V.str x), some (.bl b), some (.ref F), v3, v4, v5, none]) ∧ (upd H5 F (.lst ((((Txt.split x ⟨[10].toArray⟩).take i).map (emptied (clearedL b))).map V.str ++ [V.str r]))) F = some (.lst ((((Txt.split x ⟨[10].toArray⟩).take (i + 1)).map (emptied (clearedL b))).map V.str)) ∧ (upd H5 F (.lst ((((Txt.split x ⟨[10].toArray⟩).take i).map (emptied (clearedL b))).map V.str ++ [V.str r]))) p = some (.lst ((Txt.split x ⟨[10].toArray⟩).map V.str)) ∧ Same H (upd H5 F (.lst ((((Txt.split x ⟨[10].toArray⟩).take i).map (emptied (clearedL b))).map V.str ++ [V.str r]))) := by
          rintro r rfl
          refine ⟨⟨_, _, _, rfl⟩, ?_, ?_, fun q o e => ?_⟩
          · rw [upd_same, take_map _ hz, List.map_append]
            rfl
          · rw [upd_ne pF.symm]
            exact ep'
          · rw [upd_ne (ne_of_none e nF)]
            exact s6 _ _ (s2 _ _ e)
        have fit : ((((Txt.split x ⟨[10].toArray⟩).take i).map (emptied (clearedL b))).map V.str).length < sizeLine := by
          rw [List.length_map, List.length_map, List.length_take, sizeLine_eq]
          omega
        have go : ∀ r : Str, r = emptied (clearedL b) z → ∃ l xs w, V.ref F = .ref l ∧ [V.str r] = [w] ∧ H5 l = some (.lst xs) ∧ xs.length < sizeLine ∧ (∃ v3 v4 v5 : Option V, [some (V.str x), some (.bl b), some (.ref F), some (.str z), some (.str y), some (.bl (isBlank (tl y))), none] = [some (V.str x), some (.bl b), some (.ref F), v3, v4, v5, none] ∧ (upd H5 l (.lst (xs ++ [w]))) F = some (.lst ((((Txt.split x ⟨[10].toArray⟩).take (i + 1)).map (emptied (clearedL b))).map V.str)) ∧ (upd H5 l (.lst (xs ++ [w]))) p = some (.lst ((Txt.split x ⟨[10].toArray⟩).map V.str)) ∧ Same H (upd H5 l (.lst (xs ++ [w])))) := fun r hr => by
          obtain ⟨⟨a1, a2, a3, a4⟩, b1, b2, b3⟩ := fin r hr
          exact ⟨F, _, _, rfl, rfl, eF', fit, a1, a2, a3, a4, b1, b2, b3⟩
        refine ⟨.ref F, rfl, .inl ⟨rfl, _, SqL.of eF'⟩, .bl (isBlank (tl y)), rfl, isBlank (tl y), rfl, ?_⟩
        unfold emptied clearedL at go
        cases hb : isBlank (tl y) with
        | false =>
          refine iteF (iteF ⟨.str z, rfl, ?_⟩)
          rw [hb] at go
          refine go z ?_
          cases b with
          | false =>
            rw [if_neg (fun h => Bool.noConfusion h.1)] at hy
            rw [if_neg Bool.false_ne_true, ← hy, hb]
            rfl
          | true =>
            rw [if_pos rfl]
            by_cases hp : pre MK (tl z) = true
            · rw [if_pos ⟨rfl, hp⟩] at hy
              unfold isMark
              rw [← hy, hb, Bool.and_false]
              rfl
            · unfold isMark
              cases h : pre MK (tl z) with
              | true => exact absurd h hp
              | false => rfl
        | true =>
          rw [hb] at go
          refine iteT ?_
          cases b with
          | false =>
            rw [if_neg (fun h => Bool.noConfusion h.1)] at hy
            refine ⟨_, rfl, false, rfl, iteT (iteT ?_)⟩
            refine go _ ?_
            rw [if_neg Bool.false_ne_true, ← hy, hb]
            rfl
          | true =>
            refine ⟨_, rfl, true, rfl, iteF ⟨.str z, rfl, 10 + 1, rfl, z, rfl, line_of (by omega), rfl, _, rfl, ?_⟩⟩
            have e := cutS_to z 11
            rw [show (some ((11 : Nat) : Int)) = (some (10 + 1 : Int)) from rfl] at e
            rw [dec_strs, e, mk_eq, tl_arr]
            by_cases hm : (tl z).take 11 = MK
            · have hp : pre MK (tl z) = true := by
                show ((tl z).take 11 == MK) = true
                rw [hm]
                rfl
              rw [decide_eq_true hm]
              rw [if_pos ⟨rfl, hp⟩] at hy
              refine iteT ?_
              refine go _ ?_
              rw [if_pos rfl]
              unfold isMark
              rw [hp, ← hy, hb]
              rfl
            · have hp : ¬ pre MK (tl z) = true := fun h => hm (eq_of_beq h)
              rw [decide_eq_false hm]
              refine iteF ⟨.str z, rfl, ?_⟩
              refine go z ?_
              rw [if_pos rfl]
              unfold isMark
              cases h : pre MK (tl z) with
              | true => exact absurd h hp
              | false => rfl
    · rintro σ H2 ⟨v3, v4, v5, rfl, eF, ep, s2⟩
      rw [List.length_map, List.take_length] at eF
      refine ⟨⟨_, rfl⟩, .ref F, rfl, "\n", F, (Txt.split x ⟨[10].toArray⟩).map (emptied (clearedL b)), rfl, rfl, .inl (SqL.of eF), ?_, ?_⟩
      · rw [nl_eq]
        exact emptied_sizes _ x hx
      · rw [nl_eq, emptied_join]
        have k0 := k H2 s2
        unfold clearedL
        cases b with
        | true => exact k0
        | false => exact k0
end

/-! ### words and pieces by the law -/
def wst (s : List (List Nat) × List Nat) (c : Nat) : List (List Nat) × List Nat :=
  if (c == 32 || (c == 9 || c == 10)) = true then (if s.2.isEmpty = true then s.1 else s.1 ++ [s.2], []) else (s.1, s.2 ++ [c])
theorem wst_words : ∀ (l : List Nat) (fd : List (List Nat)) (u : List Nat), ((l ++ [32]).foldl wst (fd, u)).1 = fd ++ (spl [32] 0 u (l.map fun c => if c == 9 || c == 10 then 32 else c)).filter fun v => !v.isEmpty
  | [], fd, u => by
    show (wst (fd, u) 32).1 = fd ++ (spl [32] 0 u []).filter fun v => !v.isEmpty
    rw [spl_nil]
    unfold wst
    cases u with
    | nil => simp
    | cons a r => simp
  | c :: r, fd, u => by
    show ((r ++ [32]).foldl wst (wst (fd, u) c)).1 = fd ++ (spl [32] 0 u ((if c == 9 || c == 10 then 32 else c) :: r.map fun c => if c == 9 || c == 10 then 32 else c)).filter fun v => !v.isEmpty
    by_cases h : (c == 32 || (c == 9 || c == 10)) = true
    · have e1 : wst (fd, u) c = (if u.isEmpty = true then fd else fd ++ [u], []) := by
        unfold wst
        rw [if_pos h]
      have e2 : (if c == 9 || c == 10 then 32 else c) = 32 := by
        by_cases h2 : (c == 9 || c == 10) = true
        · rw [if_pos h2]
        · rw [if_neg h2]
          rw [Bool.or_eq_true] at h
          rcases h with h | h
          · exact eq_of_beq h
          · exact absurd h h2
      have e3 : pre [32] (32 :: r.map fun c => if c == 9 || c == 10 then 32 else c) = true := by
        unfold pre
        simp
      rw [e1, e2, spl_hit e3, wst_words r]
      show _ = fd ++ (u :: spl [32] 0 [] (r.map fun c => if c == 9 || c == 10 then 32 else c)).filter fun v => !v.isEmpty
      rw [List.filter_cons]
      cases u with
      | nil => rfl
      | cons a s => simp
    · have h1 : ¬ c = 32 := fun e => h (by rw [e]; rfl)
      have h2 : ¬ (c == 9 || c == 10) = true := fun e => h (by rw [e, Bool.or_true])
      have e1 : wst (fd, u) c = (fd, u ++ [c]) := by
        unfold wst
        rw [if_neg h]
      rw [e1, if_neg h2, spl_miss (pre_of_head [] _ h1), wst_words r]
theorem wst_len : ∀ (l : List Nat) (s : List (List Nat) × List Nat), (l.foldl wst s).2.length ≤ s.2.length + l.length ∧ (l.foldl wst s).1.length ≤ s.1.length + l.length ∧ ((l.foldl wst s).1.map (·.length)).sum + (l.foldl wst s).2.length ≤ (s.1.map (·.length)).sum + s.2.length + l.length
  | [], s => ⟨Nat.le_refl _, Nat.le_refl _, Nat.le_refl _⟩
  | c :: r, s => by
    obtain ⟨h1, h2, h3⟩ := wst_len r (wst s c)
    have g : (wst s c).2.length ≤ s.2.length + 1 ∧ (wst s c).1.length ≤ s.1.length + 1 ∧ ((wst s c).1.map (·.length)).sum + (wst s c).2.length ≤ (s.1.map (·.length)).sum + s.2.length + 1 := by
      unfold wst
      split
      · cases hu : s.2 with
        | nil => simp
        | cons a t => first | (simp; done) | (simp; omega)
      · first | (simp; done) | (simp; omega)
    rw [List.foldl_cons, List.length_cons]
    omega
def mk (l : List Nat) : Str := ⟨l.toArray⟩
theorem tl_mk' (l : List Nat) : tl (mk l) = l := rfl
theorem mk_tl' (x : Str) : mk (tl x) = x := ext_tl rfl
theorem mk_len (l : List Nat) : (mk l).length = l.length := by rw [len_tl]; rfl
theorem join_mk (y : List Nat) (ps : List (List Nat)) : Txt.join (mk y) (ps.map mk) = mk (joinL y ps) := by
  refine ext_tl ?_
  rw [join_eq, tl_join, List.map_map]
  show joinL y (ps.map (tl ∘ mk)) = joinL y ps
  have : (tl ∘ mk) = id := by
    funext l
    rfl
  rw [this, List.map_id]
section
variable {P : Program} {w : World} {K : PySem.W.Frag} {mg : Str → Option Value} {base : Heap}
def sp_law_words : Sp := fun vs H Q _ => ∃ x : Str, vs = [.str x] ∧ x.length ≤ 1000000 ∧ ∀ H', Same H H' → Q (.str ⟨(wordsOf (tl x)).toArray⟩) H'
theorem ok_law_words {f : Addr} {fd : FuncData} {dvs : List V} (F : Fn K "_law_words" s_law_words dvs f fd) (m_int : mg "int" = none) : FnOk P w K mg base CX0 1 f fd ["text"] (sp_law_words) := by
  refine Fn.okN F sc_law_words (fun vs H Q E h => ?_) (fun cdv A outer s H vs Q E hr h => ?_)
  · obtain ⟨_, rfl, _⟩ := h
    rfl
  · obtain ⟨x, rfl, hx, k⟩ := h
    refine ⟨_, (pss_cons (ps_par (i := 1) (j := 2) (by rfl) sc_law_words.nd rfl rfl (by decide) rfl rfl (pa_cons (pe_lst pa_nil) (pa_cons pe_str pa_nil)) (by rfl))
      (pss_cons (ps_for PassesOwn.never rfl (pi_str (pe_op op_add_str (pv 0) pe_str)) (pg_name (i := 3) sc_law_words.nd rfl (.inl rfl))
          (pss_one (ps_if (pt_cmpR op_in_sign (pv 3) pe_str rfl)
                (pss_cons (ps_expr (pe_bm PySem.F.plainAttrs_list PySem.F.slot_list_extend PySem.F.type_list_extend mt_extend (pv 1) (pa_cons (pe_op op_rep (pe_lst (pa_cons (pv 2) pa_nil)) (pe_callTy call_int1 (by rfl) m_int (by decide +kernel) (pa_cons (pe_cmpR op_ne (pv 2) pe_str (nomark _)) pa_nil))) pa_nil)))
                  (pss_one (ps_set (i := 2) sc_law_words.nd rfl (.inl rfl) pe_str)))
                (pss_one (ps_set (i := 2) sc_law_words.nd rfl (.inl rfl) (pe_op op_add_str (pv 2) (pv 3)))))))
      (pss_one (ps_ret (pe_m1 PySem.F.slot_str_join PySem.F.type_str_join mt_join pe_str (pv 1)))))), ?_⟩
    have l1 : (" " : Str).length = 1 := by decide +kernel
    refine ⟨Nat.zero_le _, fun F nF => ⟨_, _, rfl, ?_⟩⟩
    have s0 := same_new (o := .lst []) nF
    have eF0 : (upd H F (.lst [])) F = some (.lst []) := upd_same
    generalize upd H F (.lst []) = H0 at s0 eF0 ⊢
    have ex : tl (x ++ " ") = tl x ++ [32] := by rw [tl_append, sp_eq]
    have lx : (tl x ++ [32]).length ≤ 1000001 := by
      rw [List.length_append, ← len_tl]
      show x.length + 1 ≤ 1000001
      omega
    refine ⟨.str x, rfl, x, " ", rfl, rfl, by rw [l1, sizeLine_eq]; omega, x ++ " ", rfl, for_str (fun i σ H2 => ∃ v3 : Option V, σ = [some (.str x), some (.ref F), some (.str (mk (((tl x ++ [32]).take i).foldl wst ([], [])).2)), v3] ∧ H2 F = some (.lst (((((tl x ++ [32]).take i).foldl wst ([], [])).1.map mk).map V.str)) ∧ ∀ b o, H b = some o → H2 b = some o) ⟨none, rfl, eF0, s0⟩ ?_ ?_⟩
    · rintro i c σ H2 hc ⟨v3, rfl, eF, s2⟩
      rw [ex] at hc
      have hi : i < (tl x ++ [32]).length := (List.getElem?_eq_some_iff.mp hc).1
      have ef : ((tl x ++ [32]).take (i + 1)).foldl wst ([], []) = wst (((tl x ++ [32]).take i).foldl wst ([], [])) c := by
        rw [List.take_add_one, hc, List.foldl_append]
        rfl
      have ll := wst_len ((tl x ++ [32]).take i) ([], [])
      have lt : ((tl x ++ [32]).take i).length ≤ 1000001 := Nat.le_trans (List.length_take_le' ..) lx
      rw [ef]
      generalize ((tl x ++ [32]).take i).foldl wst ([], []) = st at ll eF
      obtain ⟨fd, u⟩ := st
      obtain ⟨l2, l3, _⟩ := ll
      have l2' : u.length ≤ 1000001 := by
        have : u.length ≤ 0 + ((tl x ++ [32]).take i).length := l2
        omega
      have l3' : fd.length ≤ 1000001 := by
        have : fd.length ≤ 0 + ((tl x ++ [32]).take i).length := l3
        omega
      refine ⟨.str ⟨#[c]⟩, rfl, c, " \t\n", rfl, rfl, _, rfl, ?_⟩
      rw [in_white]
      by_cases hb : (c == 32 || (c == 9 || c == 10)) = true
      · have e1 : wst (fd, u) c = (if u.isEmpty = true then fd else fd ++ [u], []) := by
          unfold wst
          rw [if_pos hb]
        rw [hb, e1]
        refine iteT ⟨.ref F, rfl, .inl ⟨rfl, _, SqL.of eF⟩, .str (mk u), rfl, by show 1 ≤ sizeLine; decide, fun A1 nA => ?_⟩
        have sA := same_new (o := .lst [.str (mk u)]) nA
        refine ⟨.str (mk u), rfl, rfl, .inr ⟨_, rfl, ?_⟩⟩
        have hne : (!decide (V.str (mk u) = V.str "")) = !u.isEmpty := by
          rw [dec_strs]
          have : tl ("" : Str) = [] := by decide +kernel
          rw [this, tl_mk']
          cases u <;> rfl
        rw [hne]
        have rep : (List.replicate (if (!u.isEmpty) = true then (1 : Int) else 0).toNat [V.str (mk u)]).flatten = ((if u.isEmpty = true then [] else [u]).map mk).map V.str := by
          cases u <;> rfl
        have fits : [V.str (mk u)].length * (if (!u.isEmpty) = true then (1 : Int) else 0).toNat ≤ sizeLine := by
          exact (by decide : ∀ b : Bool, 1 * (if b = true then (1 : Int) else 0).toNat ≤ sizeLine) _
        have lo : -(2 ^ 63) ≤ (if (!u.isEmpty) = true then (1 : Int) else 0) := (by decide : ∀ b : Bool, -(2 ^ 63) ≤ (if b = true then (1 : Int) else 0)) _
        have hi' : (if (!u.isEmpty) = true then (1 : Int) else 0) < 2 ^ 63 := (by decide : ∀ b : Bool, (if b = true then (1 : Int) else 0) < 2 ^ 63) _
        refine ⟨A1, _, [.str (mk u)], rfl, rfl, upd_same, lo, hi', fits, fun B1 nB => ?_⟩
        rw [rep]
        have sB := same_new (o := .lst (((if u.isEmpty = true then [] else [u]).map mk).map V.str)) nB
        have nFA : F ≠ A1 := ne_of_none eF nA
        have nFB : F ≠ B1 := ne_of_none (sA _ _ eF) nB
        have eF2 := sB _ _ (sA _ _ eF)
        refine ⟨F, B1, _, _, rfl, rfl, eF2, upd_same, ?_, ?_⟩
        · rw [List.length_map, List.length_map, List.length_map, List.length_map, sizeLine_eq]
          split
          · show fd.length + 0 ≤ _
            omega
          · show fd.length + 1 ≤ _
            omega
        · refine ⟨some (.str ⟨#[c]⟩), rfl, ?_, fun q o e => ?_⟩
          · rw [upd_same]
            refine congrArg (fun l => some (HO.lst l)) ?_
            split
            · simp
            · simp
          · rw [upd_ne (ne_of_none e nF)]
            exact sB _ _ (sA _ _ (s2 _ _ e))
      · have e1 : wst (fd, u) c = (fd, u ++ [c]) := by
          unfold wst
          rw [if_neg hb]
        have hb' : (c == 32 || (c == 9 || c == 10)) = false := by
          cases z : (c == 32 || (c == 9 || c == 10)) with
          | true => exact absurd z hb
          | false => rfl
        rw [hb', e1]
        refine iteF ⟨.str (mk u), rfl, .str ⟨#[c]⟩, rfl, _, _, rfl, rfl, ?_, some (.str ⟨#[c]⟩), ?_, eF, s2⟩
        · rw [mk_len, sizeLine_eq]
          show u.length + 1 ≤ _
          omega
        · rw [show mk u ++ ⟨#[c]⟩ = mk (u ++ [c]) from ext_tl (by rw [tl_append]; rfl)]
          rfl
    · rintro σ H2 ⟨v3, rfl, eF, s2⟩
      rw [ex, List.take_length, wst_words, List.nil_append] at eF
      have fs := filter_sum (fun v => !v.isEmpty) (spl [32] 0 [] ((tl x).map fun c => if c == 9 || c == 10 then 32 else c))
      have fl := List.length_filter_le (fun v => !v.isEmpty) (spl [32] 0 [] ((tl x).map fun c => if c == 9 || c == 10 then 32 else c))
      have ss := spl_sizes ((tl x).map fun c => if c == 9 || c == 10 then 32 else c) (y := [32]) (by simp) (by decide)
      rw [List.length_map, ← len_tl] at ss
      refine ⟨⟨_, rfl⟩, .ref F, rfl, " ", F, ((spl [32] 0 [] ((tl x).map fun c => if c == 9 || c == 10 then 32 else c)).filter fun v => !v.isEmpty).map mk, rfl, rfl, .inl (SqL.of eF), ?_, ?_⟩
      · rw [l1, List.map_map, List.length_map]
        have : ((fun z : Str => z.length) ∘ mk) = fun l : List Nat => l.length := by
          funext l
          exact mk_len l
        rw [this]
        omega
      · rw [show (" " : Str) = mk [32] from sp_eq, join_mk]
        exact k H2 s2
end

/-! ### pieces by the law, and whether they fit -/
section
variable {P : Program} {w : World} {K : PySem.W.Frag} {mg : Str → Option Value} {base : Heap}
def sp_law_pieces : Sp := fun vs H Q _ => ∃ x : Str, vs = [.str x] ∧ x.length ≤ 1000000 ∧ ∀ (H' : Hp) (p : Addr), Same H H' → H p = none → H' p = some (.lst (((spl DT 0 [] (tl x)).map mk).map V.str)) → Q (.ref p) H'
theorem ok_law_pieces {f : Addr} {fd : FuncData} {dvs : List V} (F : Fn K "_law_pieces" s_law_pieces dvs f fd) (m_len : mg "len" = none) : FnOk P w K mg base CX0 1 f fd ["text"] (sp_law_pieces) := by
  refine Fn.okN F sc_law_pieces (fun vs H Q E h => ?_) (fun cdv A outer s H vs Q E hr h => ?_)
  · obtain ⟨_, rfl, _⟩ := h
    rfl
  · obtain ⟨x, rfl, hx, k⟩ := h
    refine ⟨_, (pss_cons (ps_par (i := 1) (j := 2) (by rfl) sc_law_pieces.nd rfl rfl (by decide) rfl rfl (pa_cons (pe_lst (pa_cons pe_str pa_nil)) (pa_cons pe_int pa_nil)) (by rfl))
      (pss_cons (ps_while PassesOwn.never (pt_cmpR op_lt (pv 2) (pe_callB call_len_str (by rfl) m_len PySem.boot_len (pa_cons (pv 0) pa_nil)) (nomark _))
          (pss_one (ps_if (pt_cmpR op_eq (pe_slice sl_str (pv 0) (po_some (pv 2)) (po_some (pe_op op_add (pv 2) pe_int))) pe_str (nomark _))
                (pss_cons (ps_expr (pe_bm PySem.F.plainAttrs_list PySem.F.slot_list_append PySem.F.type_list_append mt_append (pv 1) (pa_cons pe_str pa_nil)))
                  (pss_one (ps_set (i := 2) sc_law_pieces.nd rfl (.inl rfl) (pe_op op_add (pv 2) pe_int))))
                (pss_cons (ps_expr (pe_bm PySem.F.plainAttrs_list PySem.F.slot_list_append PySem.F.type_list_append mt_append (pv 1) (pa_cons (pe_op op_add_str (pe_bm0 PySem.F.plainAttrs_list PySem.F.slot_list_pop PySem.F.type_list_pop mt_pop (pv 1)) (pe_ix ix_str (pv 0) (pv 2) (fun _ _ => rfl))) pa_nil)))
                  (pss_one (ps_set (i := 2) sc_law_pieces.nd rfl (.inl rfl) (pe_op op_add (pv 2) pe_int)))))))
      (pss_one (ps_ret (pv 1))))), ?_⟩
    refine ⟨by decide, fun F nF => ⟨_, _, rfl, ?_⟩⟩
    have s0 := same_new (o := .lst [.str ⟨#[]⟩]) nF
    have eF0 : (upd H F (.lst [.str ⟨#[]⟩])) F = some (.lst [.str ⟨#[]⟩]) := upd_same
    have hl : (tl x).length = x.length := (len_tl x).symm
    refine while_by (fun σ H2 => ∃ (a : Nat) (ini : List (List Nat)) (u : List Nat), σ = [some (.str x), some (.ref F), some (.int (a : Int))] ∧ a ≤ x.length ∧ H2 F = some (.lst (((ini ++ [u]).map mk).map V.str)) ∧ (∀ b o, H b = some o → H2 b = some o) ∧ spl DT 0 [] (tl x) = ini ++ spl DT 0 u ((tl x).drop a) ∧ ini.length ≤ a ∧ u.length ≤ a)
      (fun σ _ => match σ with | [_, _, some (.int a)] => (x.length - a).toNat | _ => 0) ⟨0, [], [], rfl, Nat.zero_le _, eF0, s0, rfl, Nat.le_refl _, Nat.le_refl _⟩ ?_ ?_
    · rintro σ H2 ⟨a, ini, u, rfl, ha, eF, s2, hs, li, lu⟩
      refine ⟨_, rfl, .str x, rfl, x, rfl, line_of hx, _, _, rfl, rfl, _, rfl, ite2 (fun lt => ?_) (fun ge => ?_)⟩
      · have lt' : a < x.length := by
          have := of_decide_eq_true lt
          omega
        have hd : (tl x).drop a = (tl x)[a]'(by omega) :: (tl x).drop (a + 1) := List.drop_eq_getElem_cons (by omega)
        refine ⟨.str x, rfl, .int (a : Int), rfl, (a : Int), rfl, .int (a : Int), rfl, _, _, rfl, rfl, (a : Int) + 3, rfl, x, rfl, line_of hx, rfl, _, rfl, ?_⟩
        have ec := cutS_mid x a (a + 3) ha
        rw [show ((a + 3 : Nat) : Int) = (a : Int) + 3 by omega, Nat.add_sub_cancel_left] at ec
        rw [dec_strs, ec, dt_eq, tl_arr]
        by_cases hm : ((tl x).drop a).take 3 = DT
        · have hp : pre DT ((tl x).drop a) = true := by
            show (((tl x).drop a).take 3 == DT) = true
            rw [hm]
            rfl
          have l3 : a + 3 ≤ x.length := by
            have := pre_len hp
            rw [List.length_drop] at this
            have e3 : DT.length = 3 := rfl
            omega
          rw [decide_eq_true hm]
          refine iteT ⟨.ref F, rfl, .inl ⟨rfl, _, SqL.of eF⟩, F, _, _, rfl, rfl, eF, ?_, ?_⟩
          · rw [List.length_map, List.length_map, List.length_append, sizeLine_eq]
            show ini.length + 1 < _
            omega
          · refine ⟨_, rfl, _, _, rfl, rfl, ⟨a + 3, ini ++ [u], [], ?_, l3, ?_, ?_, ?_, ?_, Nat.zero_le _⟩, ?_⟩
            · show [some (V.str x), some (.ref F), some (.int ((a : Int) + 3))] = _
              rw [show ((a : Int) + 3) = ((a + 3 : Nat) : Int) by omega]
            · rw [upd_same]
              refine congrArg (fun l => some (HO.lst l)) ?_
              rw [List.map_append (l₁ := ini ++ [u]), List.map_append (l₁ := (ini ++ [u]).map mk)]
              rfl
            · intro b o e
              rw [upd_ne (ne_of_none e nF)]
              exact s2 b o e
            · rw [hs, spl_at (S := DT) (by decide) hp, List.append_assoc]
              rfl
            · rw [List.length_append]
              show ini.length + 1 ≤ _
              omega
            · show (x.length - ((a : Int) + 3)).toNat < (x.length - (a : Int)).toNat
              omega
        · have hp : pre DT ((tl x).drop a) = false := by
            cases z : pre DT ((tl x).drop a) with
            | false => rfl
            | true => exact absurd (eq_of_beq z) hm
          rw [decide_eq_false hm]
          have gc : (tl x)[a]? = some ((tl x)[a]'(by omega)) := List.getElem?_eq_getElem (by omega)
          generalize (tl x)[a]'(by omega) = c at hd gc
          have lastF : (((ini ++ [u]).map mk).map V.str)[(((ini ++ [u]).map mk).map V.str).length - 1]? = some (.str (mk u)) := by
            rw [List.map_append, List.map_append, List.length_append]
            show (_ ++ [V.str (mk u)])[_ + 1 - 1]? = _
            rw [Nat.add_sub_cancel, List.getElem?_concat_length]
          have dropF : (((ini ++ [u]).map mk).map V.str).dropLast = (ini.map mk).map V.str := by
            rw [List.map_append, List.map_append]
            exact List.dropLast_concat
          refine iteF ⟨.ref F, rfl, .inl ⟨rfl, _, SqL.of eF⟩, .ref F, rfl, .inl ⟨rfl, _, SqL.of eF⟩, F, _, .str (mk u), rfl, rfl, eF, lastF, .str x, rfl, _, rfl, x, (a : Int), c, rfl, rfl, line_of hx, atI_nat gc, mk u, ⟨#[c]⟩, rfl, rfl, ?_, ?_⟩
          · rw [mk_len, sizeLine_eq]
            show u.length + 1 ≤ _
            omega
          · refine ⟨F, _, _, rfl, rfl, upd_same, ?_, ?_⟩
            · rw [dropF, List.length_map, List.length_map, sizeLine_eq]
              omega
            · refine ⟨_, rfl, _, _, rfl, rfl, ⟨a + 1, ini, u ++ [c], ?_, by omega, ?_, ?_, ?_, by omega, ?_⟩, ?_⟩
              · show [some (V.str x), some (.ref F), some (.int ((a : Int) + 1))] = _
                rw [show ((a : Int) + 1) = ((a + 1 : Nat) : Int) by omega]
              · rw [upd_same, dropF]
                refine congrArg (fun l => some (HO.lst l)) ?_
                rw [List.map_append, List.map_append, show mk u ++ ⟨#[c]⟩ = mk (u ++ [c]) from ext_tl (by rw [tl_append]; rfl)]
                rfl
              · intro b o e
                rw [upd_ne (ne_of_none e nF), upd_ne (ne_of_none e nF)]
                exact s2 b o e
              · rw [hd] at hp
                rw [hs, hd, spl_miss hp]
              · rw [List.length_append]
                show u.length + 1 ≤ _
                omega
              · show (x.length - ((a : Int) + 1)).toNat < (x.length - (a : Int)).toNat
                omega
      · have ge' : ¬ ((a : Int) < x.length) := of_decide_eq_false (by
          cases z : decide ((a : Int) < (x.length : Int)) with
          | false => rfl
          | true => exact absurd z ge)
        have : (tl x).drop a = [] := List.drop_of_length_le (by omega)
        rw [this, spl_nil] at hs
        rw [← hs] at eF
        exact ⟨.ref F, rfl, k H2 F s2 nF eF⟩
    · rintro σ H4 Q1 Q2 i ⟨v, e1, u, e2, z, e3, e4, i1, j1, e5, e6, b, e7, q⟩
      exact ⟨v, e1, u, e2, z, e3, e4, i1, j1, e5, e6, b, e7, i _ _ q⟩
end

/-! ### whether pieces fit, by all ends -/
structure FitsInv (f : Str) (rest : List Str) (g : Str) (j : Nat) (ns : List Nat) : Prop where
  zero : j = 0 → ns = [0]
  one : 1 ≤ j → pre (tl f) (tl g) = true ∧ ∃ m, free (tl g) ((rest.map tl).take (j - 1)) f.length = some m ∧ m ∈ ns ∧ ∀ n ∈ ns, m ≤ n
  two : ∀ i, j = i + 2 → ∃ m y, rest[i]? = some y ∧ free (tl g) ((rest.map tl).take i) f.length = some m ∧ ∀ n, n ∈ ns ↔ ∃ a, n = a + y.length ∧ m ≤ a ∧ a ≤ g.length ∧ pre (tl y) ((tl g).drop a) = true
  le : ∀ n ∈ ns, n ≤ g.length
def nextEnds (y g : Str) (as : List Nat) : List Nat := (as.filter fun a => pre (tl y) ((tl g).drop a)).map (· + y.length)
def begins (g : Str) (ns : List Nat) (j : Nat) (as : List Nat) : Prop := (j = 0 ∧ as = [0]) ∨ (1 ≤ j ∧ ∃ m, m ∈ ns ∧ (∀ n ∈ ns, m ≤ n) ∧ as = (List.range (g.length + 1 - m)).map (m + ·))
theorem begins_le {g : Str} {ns as : List Nat} {j : Nat} (h : begins g ns j as) : ∀ a ∈ as, a ≤ g.length := by
  intro a ha
  rcases h with ⟨_, rfl⟩ | ⟨_, m, _, _, rfl⟩
  · rw [List.mem_singleton.mp ha]
    exact Nat.zero_le _
  · obtain ⟨i, hi, rfl⟩ := List.mem_map.mp ha
    have := List.mem_range.mp hi
    omega
theorem begins_len {g : Str} {ns as : List Nat} {j : Nat} (h : begins g ns j as) : as.length ≤ g.length + 1 := by
  rcases h with ⟨_, rfl⟩ | ⟨_, m, _, _, rfl⟩
  · exact Nat.succ_le_succ (Nat.zero_le _)
  · rw [List.length_map, List.length_range]
    omega
theorem fits_step {f : Str} {rest : List Str} {g : Str} {j : Nat} {ns as : List Nat} {y : Str} (h : FitsInv f rest g j ns) (hy : (f :: rest)[j]? = some y) (ha : begins g ns j as) :
    (nextEnds y g as ≠ [] → FitsInv f rest g (j + 1) (nextEnds y g as)) ∧ (nextEnds y g as = [] → ∀ inner z, rest = inner ++ [z] → inOrderF (tl f) (inner.map tl) (tl z) (tl g) = false) := by
  have hg : (tl g).length = g.length := (len_tl g).symm
  rcases ha with ⟨rfl, rfl⟩ | ⟨hj, m, hm, hmin, rfl⟩
  · -- the first piece
    have ey : y = f := (Option.some.inj hy).symm
    subst ey
    have e : nextEnds y g [0] = if pre (tl y) (tl g) = true then [y.length] else [] := by
      unfold nextEnds
      rw [List.filter_cons, List.drop_zero]
      by_cases hp : pre (tl y) (tl g) = true
      · rw [if_pos hp, if_pos hp]
        simp
      · rw [if_neg hp, if_neg hp]
        rfl
    rw [e]
    constructor
    · intro hne
      by_cases hp : pre (tl y) (tl g) = true
      · rw [if_pos hp]
        refine ⟨fun e => by omega, fun _ => ⟨hp, y.length, ?_, List.mem_singleton.mpr rfl, fun n hn => by rw [List.mem_singleton.mp hn]; exact Nat.le_refl _⟩, fun i hi => by omega, fun n hn => by rw [List.mem_singleton.mp hn, len_tl y, ← hg]; exact pre_len hp⟩
        show free (tl g) ((rest.map tl).take 0) y.length = some y.length
        rw [List.take_zero]
        rfl
      · rw [if_neg hp] at hne
        exact absurd rfl hne
    · intro he inner z _
      have hp : pre (tl y) (tl g) = false := by
        cases hp : pre (tl y) (tl g) with
        | false => rfl
        | true =>
          rw [hp, if_pos rfl] at he
          cases he
      unfold inOrderF
      rw [hp]
      rfl
  · -- a later one
    obtain ⟨i, rfl⟩ : ∃ i, j = i + 1 := ⟨j - 1, by omega⟩
    have hy' : rest[i]? = some y := hy
    obtain ⟨hp0, m', hf, hm', hmin'⟩ := h.one (by omega)
    have emm : m = m' := Nat.le_antisymm (hmin _ hm') (hmin' _ hm)
    subst emm
    have hf' : free (tl g) ((rest.map tl).take i) f.length = some m := hf
    have memA : ∀ a, a ∈ (List.range (g.length + 1 - m)).map (m + ·) ↔ m ≤ a ∧ a ≤ g.length := by
      intro a
      rw [List.mem_map]
      constructor
      · rintro ⟨i, hi, rfl⟩
        have := List.mem_range.mp hi
        omega
      · rintro ⟨h1, h2⟩
        exact ⟨a - m, List.mem_range.mpr (by omega), by omega⟩
    have memN : ∀ n, n ∈ nextEnds y g ((List.range (g.length + 1 - m)).map (m + ·)) ↔ ∃ a, n = a + y.length ∧ m ≤ a ∧ a ≤ g.length ∧ pre (tl y) ((tl g).drop a) = true := by
      intro n
      unfold nextEnds
      rw [List.mem_map]
      constructor
      · rintro ⟨a, h1, rfl⟩
        obtain ⟨h2, h3⟩ := List.mem_filter.mp h1
        obtain ⟨h4, h5⟩ := (memA a).mp h2
        exact ⟨a, rfl, h4, h5, h3⟩
      · rintro ⟨a, rfl, h4, h5, h3⟩
        exact ⟨a, List.mem_filter.mpr ⟨(memA a).mpr ⟨h4, h5⟩, h3⟩, rfl⟩
    have et : (rest.map tl).take (i + 1) = (rest.map tl).take i ++ [tl y] := by
      rw [List.take_add_one, List.getElem?_map, hy']
      rfl
    have hfree : free (tl g) ((rest.map tl).take (i + 1)) f.length = (firstFrom (fun a => pre (tl y) ((tl g).drop a)) ((tl g).length + 1 - m) m).map (· + y.length) := by
      rw [et, free_app, hf']
      show free (tl g) [tl y] m = _
      unfold free
      rw [← len_tl y]
      cases firstFrom (fun a => pre (tl y) ((tl g).drop a)) ((tl g).length + 1 - m) m <;> rfl
    constructor
    · intro hne
      obtain ⟨n0, hn0⟩ := List.exists_mem_of_ne_nil _ hne
      obtain ⟨a0, _, a1, a2, a3⟩ := (memN n0).mp hn0
      refine ⟨fun e => by omega, fun _ => ⟨hp0, ?_⟩, fun i' hi' => ?_, fun n hn => ?_⟩
      · show ∃ m', free (tl g) ((rest.map tl).take (i + 1)) f.length = some m' ∧ _
        rw [hfree]
        cases hff : firstFrom (fun a => pre (tl y) ((tl g).drop a)) ((tl g).length + 1 - m) m with
        | none =>
          have := firstFrom_none hff a0 a1 (by omega)
          rw [this] at a3
          cases a3
        | some k =>
          obtain ⟨k1, k2, k3, k4⟩ := firstFrom_some hff
          refine ⟨k + y.length, rfl, (memN _).mpr ⟨k, rfl, k1, by omega, k3⟩, fun n hn => ?_⟩
          obtain ⟨a, rfl, b1, b2, b3⟩ := (memN n).mp hn
          by_cases hlt : a < k
          · have := k4 a b1 hlt
            rw [this] at b3
            cases b3
          · omega
      · have ei : i' = i := by omega
        subst ei
        exact ⟨m, y, hy', hf', memN⟩
      · obtain ⟨a, rfl, b1, b2, b3⟩ := (memN n).mp hn
        have := pre_len b3
        rw [List.length_drop, ← len_tl] at this
        omega
    · intro he inner z er
      have noA : ∀ a, m ≤ a → a ≤ g.length → pre (tl y) ((tl g).drop a) = false := fun a h1 h2 => by
        cases hp : pre (tl y) ((tl g).drop a) with
        | false => rfl
        | true =>
          have := (memN (a + y.length)).mpr ⟨a, rfl, h1, h2, hp⟩
          rw [he] at this
          cases this
      unfold inOrderF
      rw [hp0]
      show (match free (tl g) (inner.map tl) (tl f).length with | none => false | some m => decide (m + (tl z).length ≤ (tl g).length) && pre (tl z) ((tl g).drop ((tl g).length - (tl z).length))) = false
      have hil : i < rest.length := (List.getElem?_eq_some_iff.mp hy').1
      rw [er, List.length_append] at hil
      have hil' : i < inner.length + 1 := hil
      rw [← len_tl f]
      by_cases hin : i < inner.length
      · have e1 : (rest.map tl).take (i + 1) = (inner.map tl).take (i + 1) := by
          rw [er, List.map_append, List.take_append_of_le_length (by rw [List.length_map]; omega)]
        have e2 : inner.map tl = (inner.map tl).take (i + 1) ++ (inner.map tl).drop (i + 1) := (List.take_append_drop _ _).symm
        have e3 : free (tl g) ((rest.map tl).take (i + 1)) f.length = none := by
          rw [hfree, firstFrom_no fun a h1 h2 => noA a h1 (by omega)]
          rfl
        rw [e2, free_app, ← e1, e3]
        rfl
      · have ei : i = inner.length := by omega
        subst ei
        have e1 : (rest.map tl).take inner.length = inner.map tl := by
          rw [er, List.map_append, List.take_append_of_le_length (by rw [List.length_map]; exact Nat.le_refl _), List.take_of_length_le (by rw [List.length_map]; exact Nat.le_refl _)]
        have ey : y = z := by
          rw [er, List.getElem?_append_right (Nat.le_refl _), Nat.sub_self] at hy'
          exact (Option.some.inj hy').symm
        subst ey
        rw [e1] at hf'
        rw [hf']
        show (decide (m + (tl y).length ≤ (tl g).length) && pre (tl y) ((tl g).drop ((tl g).length - (tl y).length))) = false
        by_cases hle : m + (tl y).length ≤ (tl g).length
        · rw [noA ((tl g).length - (tl y).length) (by omega) (by omega), Bool.and_false]
        · rw [decide_eq_false hle]
          rfl
theorem fits_end {f : Str} {inner : List Str} {z g : Str} {ns : List Nat} (h : FitsInv f (inner ++ [z]) g (inner.length + 2) ns) : decide (g.length ∈ ns) = inOrderF (tl f) (inner.map tl) (tl z) (tl g) := by
  have hg : (tl g).length = g.length := (len_tl g).symm
  obtain ⟨hp0, _⟩ := h.one (by omega)
  obtain ⟨m, y, hy, hf, mem⟩ := h.two inner.length rfl
  have ey : y = z := by
    rw [List.getElem?_append_right (Nat.le_refl _), Nat.sub_self] at hy
    exact (Option.some.inj hy).symm
  subst ey
  have e1 : ((inner ++ [y]).map tl).take inner.length = inner.map tl := by
    rw [List.map_append, List.take_append_of_le_length (by rw [List.length_map]; exact Nat.le_refl _), List.take_of_length_le (by rw [List.length_map]; exact Nat.le_refl _)]
  rw [e1] at hf
  unfold inOrderF
  rw [hp0, ← len_tl f, hf, Bool.eq_iff_iff, decide_eq_true_eq, mem]
  show _ ↔ (true && (decide (m + (tl y).length ≤ (tl g).length) && pre (tl y) ((tl g).drop ((tl g).length - (tl y).length)))) = true
  rw [Bool.true_and, Bool.and_eq_true, decide_eq_true_eq, hg, ← len_tl y]
  constructor
  · rintro ⟨a, ea, h1, h2, h3⟩
    refine ⟨by omega, ?_⟩
    rw [show g.length - y.length = a by omega]
    exact h3
  · rintro ⟨h1, h2⟩
    exact ⟨g.length - y.length, by omega, by omega, by omega, h2⟩
theorem for_enum {K : PySem.W.Frag} {a : Addr} {xs : List V} {g : TG} {tb : TS} {D : Ends} {σ : L2.St} {H : Hp} (Pv : Nat → L2.St → Hp → Prop) (h0 : Pv 0 σ H) (hl : ∀ i σ H, i ≤ xs.length → Pv i σ H → SqL K H a xs)
    (hs : ∀ i x T σ H, xs[i]? = some x → Pv i σ H → H T = none → g (.ref T) σ (upd H T (.tup [.int (i : Nat), x])) fun σ2 H2 => tb { D with nx := Pv (i + 1), ct := Pv (i + 1), bk := D.nx } σ2 H2) (hd : ∀ σ H, Pv xs.length σ H → D.nx σ H) :
    ∃ W : Nat → Nat → L2.St → Hp → Prop, (∃ m, W 0 m σ H) ∧ ∀ i m σ H, W i m σ H →
      ((Ite K a).stop i H ∧ D.nx σ H) ∨ ((Ite K a).go i H ∧ ∃ N : L2.St → Hp → Prop, (∀ σ' H', N σ' H' → ∃ m', m' < m ∧ W (i + 1) m' σ' H') ∧ ∀ x H', (Ite K a).yld i H x H' → g x σ H' fun σ2 H2 => tb { D with nx := N, ct := N, bk := D.nx } σ2 H2) := by
  refine ⟨fun i m σ H => m = xs.length - i ∧ i ≤ xs.length ∧ Pv i σ H, ⟨xs.length, by simp, Nat.zero_le _, h0⟩, ?_⟩
  rintro i m σ H ⟨rfl, hi, p⟩
  have q := hl i σ H hi p
  by_cases hlt : i < xs.length
  · refine .inr ⟨⟨xs, xs[i], q, by simp [hlt]⟩, Pv (i + 1), fun σ' H' p' => ⟨xs.length - (i + 1), by omega, rfl, hlt, p'⟩, fun v H' y => ?_⟩
    obtain ⟨T, x, rfl, hT, rfl, hx⟩ := y
    exact hs i x T σ _ (hx xs q) p hT
  · have e : i = xs.length := by omega
    subst e
    exact .inl ⟨⟨xs, q, Nat.le_refl _⟩, hd σ H p⟩
theorem nat_at {ns : List Nat} {i : Nat} {x : V} (h : (ns.map fun n : Nat => V.int (n : Int))[i]? = some x) : ∃ n : Nat, x = V.int (n : Int) ∧ ns[i]? = some n := by
  rw [List.getElem?_map] at h
  cases e : ns[i]? with
  | none =>
    rw [e] at h
    cases h
  | some n =>
    rw [e] at h
    exact ⟨n, (Option.some.inj h).symm, rfl⟩
section
variable {P : Program} {w : World} {K : PySem.W.Frag} {mg : Str → Option Value} {base : Heap}
def sp_law_fits : Sp := fun vs H Q _ => ∃ (p : Addr) (f : Str) (inner : List Str) (z g : Str), vs = [.ref p, .str g] ∧ H p = some (.lst ((f :: (inner ++ [z])).map V.str)) ∧ g.length ≤ 1000000 ∧ (∀ y ∈ f :: (inner ++ [z]), y.length ≤ 1000000) ∧
  ∀ H', Same H H' → Q (.bl (inOrderF (tl f) (inner.map tl) (tl z) (tl g))) H'
theorem ok_law_fits {f : Addr} {fd : FuncData} {dvs : List V} (F : Fn K "_law_fits" s_law_fits dvs f fd) (m_enumerate : mg "enumerate" = none) (m_len : mg "len" = none) (m_list : mg "list" = none) (m_min : mg "min" = none) (m_range : mg "range" = none) : FnOk P w K mg base CX0 1 f fd ["pieces", "got"] (sp_law_fits) := by
  refine Fn.okN F sc_law_fits (fun vs H Q E h => ?_) (fun cdv A outer s H vs Q E hr h => ?_)
  · obtain ⟨_, _, _, _, _, rfl, _⟩ := h
    rfl
  · obtain ⟨p, f, inner, z, g, rfl, hp, lg, ly, k⟩ := h
    refine ⟨_, (pss_cons (ps_set (i := 2) sc_law_fits.nd rfl (.inl rfl) (pe_lst (pa_cons pe_int pa_nil)))
      (pss_cons (ps_for PassesOwn.never rfl (pi_enum (by rfl) m_enumerate (pa_cons (pv 0) pa_nil)) (pg_tup rfl (pgs_cons (pg_name (i := 3) sc_law_fits.nd rfl (.inl rfl)) (pgs_cons (pg_name (i := 4) sc_law_fits.nd rfl (.inr rfl)) pgs_nil)))
          (pss_cut (ps_set (i := 5) sc_law_fits.nd rfl (.inl rfl) (pe_ifExp (pt_cmpR op_gt (pv 3) pe_int (nomark _)) (pe_listRg rfl (by rfl) m_list (prg_2 (by rfl) m_range (pe_callB (cr_min rfl) (by rfl) m_min (by decide +kernel) (pa_cons (pv 2) pa_nil)) (pe_op op_add (pe_callB call_len_str (by rfl) m_len PySem.boot_len (pa_cons (pv 1) pa_nil)) pe_int))) (pv 2)))
            (pss_cons (ps_setLc (i := 2) (own := [("at", 6)]) (g := gName 6) (by rfl) sc_law_fits.nd rfl rfl (sw_true rfl rfl rfl (by decide +kernel)) (pi_list (pv 5)) (blkOk_by (own := [("at", 6)]) (N := ["pieces", "got", "ends", "number", "piece", "begins", "at"]) (sc := defScope s_law_fits) (by decide +kernel)) (fun _ _ _ _ _ => (pg_name (i := 6) sc_law_fits.nd rfl (.inl rfl))) (fun _ _ _ _ _ => (pts_one (pt_cmpR op_eq (pe_slice sl_str (pv 1) (po_some (pv 6)) (po_some (pe_op op_add (pv 6) (pe_callB call_len_str (by rfl) m_len PySem.boot_len (pa_cons (pv 4) pa_nil))))) (pv 4) (nomark _)))) (fun _ _ _ _ _ => (pe_op op_add (pv 6) (pe_callB call_len_str (by rfl) m_len PySem.boot_len (pa_cons (pv 4) pa_nil)))))
            (pss_one (ps_if (pt_cmpR (op_eqD hr.units) (pv 2) (pe_lst pa_nil) (nomark _))
                (pss_one (ps_ret pe_bl))
                pss_nil)))))
      (pss_one (ps_ret (pe_cmpR op_in_seq (pe_callB call_len_str (by rfl) m_len PySem.boot_len (pa_cons (pv 1) pa_nil)) (pv 2) rfl))))), ?_⟩
    have hg : (tl g).length = g.length := (len_tl g).symm
    refine ⟨by decide, fun E0 nE0 => ?_⟩
    have s0 := same_new (o := .lst [.int 0]) nE0
    have e0 : (upd H E0 (.lst [.int 0])) E0 = some (.lst [.int 0]) := upd_same
    generalize upd H E0 (.lst [.int 0]) = H0 at s0 e0 ⊢
    refine ⟨.ref p, rfl, p, _, rfl, SqL.of (s0 _ _ hp), for_enum (K := K) (a := p) (xs := (f :: (inner ++ [z])).map V.str) (fun j σ H2 => ∃ (ns : List Nat) (En : Addr) (v3 v4 v5 : Option V), σ = [some (.ref p), some (.str g), some (.ref En), v3, v4, v5, none] ∧ H2 En = some (.lst (ns.map fun n : Nat => V.int (n : Int))) ∧ Same H H2 ∧ FitsInv f (inner ++ [z]) g j ns)
      ⟨[0], E0, none, none, none, rfl, e0, s0, ⟨fun _ => rfl, fun h => by omega, fun i h => by omega, fun n hn => by rw [List.mem_singleton.mp hn]; exact Nat.zero_le _⟩⟩ (fun i σ H2 _ h => by obtain ⟨_, _, _, _, _, _, _, s, _⟩ := h; exact SqL.of (s _ _ hp)) ?_ ?_⟩
    · rintro j v T σ H2 hv ⟨ns, En, v3, v4, v5, rfl, eE, s2, inv⟩ nT
      obtain ⟨y, rfl, hy⟩ := str_at hv
      have lyy := ly y (List.mem_of_getElem? hy)
      have sT := same_new (o := .tup [.int (j : Nat), .str y]) nT
      have s2T : Same H (upd H2 T (.tup [.int (j : Nat), .str y])) := s2.trans sT
      have eE' := sT _ _ eE
      refine ⟨T, [.int (j : Nat), .str y], rfl, SqT.of upd_same, rfl, .int (j : Nat), _, rfl, .str y, _, rfl, rfl, ?_⟩
      generalize upd H2 T (.tup [.int (j : Nat), .str y]) = H3 at s2T eE' ⊢
      -- begins
      refine ⟨fun σ H4 => ∃ (as : List Nat) (B : Addr), σ = [some (.ref p), some (.str g), some (.ref En), some (.int (j : Nat)), some (.str y), some (.ref B), none] ∧ H4 B = some (.lst (as.map fun n : Nat => V.int (n : Int))) ∧ Same H H4 ∧ begins g ns j as, ?_, ?_⟩
      · refine ⟨.int (j : Nat), rfl, _, _, rfl, rfl, _, rfl, ?_⟩
        by_cases hj : j = 0
        · subst hj
          have : ns = [0] := inv.zero rfl
          subst this
          exact iteF ⟨.ref En, rfl, [0], En, rfl, eE', s2T, .inl ⟨rfl, rfl⟩⟩
        · rw [decide_eq_true (show ((j : Nat) : Int) > 0 by omega)]
          obtain ⟨_, m', _, hm1, hm2⟩ := inv.one (by omega)
          refine iteT ⟨.ref En, rfl, En, ns.map fun n : Nat => (n : Int), rfl, SqL.of (by rw [List.map_map]; exact eE'), by rw [List.length_map]; exact List.length_pos_of_mem hm1, fun m hm hmin => ⟨.str g, rfl, g, rfl, line_of lg, _, _, rfl, rfl, m, _, rfl, rfl, ?_⟩⟩
          obtain ⟨n, hn, rfl⟩ := List.mem_map.mp hm
          have hmin' : ∀ q ∈ ns, n ≤ q := fun q hq => by
            have := hmin (q : Int) (List.mem_map.mpr ⟨q, hq, rfl⟩)
            omega
          have hn2 : n ≤ g.length := inv.le n hn
          refine ⟨RgOk.of_le (by omega) (by omega) (by omega) (by omega), fun B nB => ?_⟩
          have sB := same_new (o := .lst (rgV (n : Int) ((g.length : Int) + 1))) nB
          refine ⟨(List.range (g.length + 1 - n)).map (n + ·), B, rfl, ?_, s2T.trans sB, .inr ⟨by omega, n, hn, hmin', rfl⟩⟩
          rw [upd_same]
          unfold rgV
          rw [List.map_map, show (((g.length : Int) + 1) - (n : Int)).toNat = g.length + 1 - n by omega]
          rfl
      rintro σ4 H4 ⟨as, B, rfl, eB, s4, hb⟩
      have asl := begins_len hb
      -- ends
      refine ⟨_, rfl, B, rfl, ⟨_, SqL.of eB⟩, fun L nL => lc_list (K := K) (a := B) (xs := as.map fun n : Nat => V.int (n : Int)) (fun i H5 => H5 L = some (.lst ((nextEnds y g (as.take i)).map fun n : Nat => V.int (n : Int))) ∧ Same H4 H5) ⟨upd_same, same_new nL⟩ (fun i H5 _ h => SqL.of (h.2 _ _ eB)) ?_ ?_⟩
      · rintro i v H5 hv ⟨eL, s5⟩
        obtain ⟨a, rfl, ha⟩ := nat_at hv
        have hal := begins_le hb a (List.mem_of_getElem? ha)
        have hil : i < as.length := (List.getElem?_eq_some_iff.mp ha).1
        refine ⟨rfl, .str g, rfl, .int (a : Int), rfl, (a : Int), rfl, .int (a : Int), rfl, .str y, rfl, y, rfl, line_of lyy, _, _, rfl, rfl, (a : Int) + (y.length : Int), rfl, g, rfl, line_of lg, .str y, rfl, rfl, _, rfl, ?_⟩
        have ec := cutS_mid g a (a + y.length) hal
        rw [show ((a + y.length : Nat) : Int) = (a : Int) + (y.length : Int) by omega, Nat.add_sub_cancel_left] at ec
        rw [dec_strs, ec]
        have ep : decide (((tl g).drop a).take y.length = tl y) = pre (tl y) ((tl g).drop a) := by
          rw [len_tl y]
          rw [Bool.eq_iff_iff, decide_eq_true_eq]
          exact ⟨fun h => by show (_ == _) = true; rw [h]; exact beq_self_eq_true _, fun h => eq_of_beq h⟩
        rw [ep]
        have et := take_filter (fun a => pre (tl y) ((tl g).drop a)) ha
        have en : nextEnds y g (as.take (i + 1)) = nextEnds y g (as.take i) ++ (if pre (tl y) ((tl g).drop a) = true then [a + y.length] else []) := by
          unfold nextEnds
          rw [et, List.map_append]
          split <;> rfl
        cases hp : pre (tl y) ((tl g).drop a) with
        | false =>
          rw [hp, if_neg Bool.false_ne_true, List.append_nil] at en
          exact iteF ⟨by rw [en]; exact eL, s5⟩
        | true =>
          rw [hp, if_pos rfl] at en
          have nl : (nextEnds y g (as.take i)).length ≤ i := by
            unfold nextEnds
            rw [List.length_map]
            exact Nat.le_trans (List.length_filter_le _ _) (List.length_take_le _ _)
          refine iteT ⟨.int (a : Int), rfl, .str y, rfl, y, rfl, line_of lyy, _, _, rfl, rfl, _, eL, by rw [List.length_map, sizeLine_eq]; omega, ?_, fun b o e => ?_⟩
          · rw [upd_same, en, List.map_append]
            show some (HO.lst (_ ++ [V.int ((a : Int) + (y.length : Int))])) = some (HO.lst (_ ++ [V.int ((a + y.length : Nat) : Int)]))
            rw [show ((a + y.length : Nat) : Int) = (a : Int) + (y.length : Int) by omega]
          · rw [upd_ne (ne_of_none e nL)]
            exact s5 b o e
      · rintro H5 ⟨eL, s5⟩
        rw [List.length_map, List.take_length] at eL
        have step := fits_step inv hy hb
        refine ⟨.ref L, rfl, Nat.zero_le _, fun N nN => ?_⟩
        have sN := same_new (o := .lst []) nN
        have e1 : (nextEnds y g as).map (fun n : Nat => V.int (n : Int)) = ((nextEnds y g as).map fun n : Nat => (n : Int)).map V.int := by
          rw [List.map_map]
          rfl
        have eL2 := sN _ _ eL
        rw [e1] at eL2
        refine ⟨_, _, .lst (SqL.of eL2) (dp_ints _), .lst (SqL.of upd_same) .nil, shaped_ints _, shaped_ints [], _, rfl, ?_⟩
        rw [eqv_nil]
        have s6 : Same H (upd H5 N (.lst [])) := s4.trans (s5.trans sN)
        cases hne : nextEnds y g as with
        | nil =>
          refine iteT ?_
          have := k _ s6
          rw [step.2 hne inner z rfl] at this
          exact this
        | cons q r =>
          refine iteF ⟨nextEnds y g as, L, _, _, _, rfl, sN _ _ eL, s6, step.1 (by rw [hne]; simp)⟩
    · rintro σ H2 ⟨ns, En, v3, v4, v5, rfl, eE, s2, inv⟩
      have hj : ((f :: (inner ++ [z])).map V.str).length = inner.length + 2 := by simp
      rw [hj] at inv
      refine ⟨.str g, rfl, g, rfl, line_of lg, .ref En, rfl, En, _, rfl, .inl (SqL.of eE), rfl, ?_, ?_⟩
      · rw [List.all_map]
        exact List.all_eq_true.mpr fun _ _ => rfl
      · have ei : inV (.int (g.length : Int)) (ns.map fun n : Nat => V.int (n : Int)) = decide (g.length ∈ ns) := by
          unfold inV
          rw [List.any_map, Bool.eq_iff_iff, List.any_eq_true, decide_eq_true_eq]
          constructor
          · rintro ⟨n, hn, e⟩
            have e' : ((n : Int) == (g.length : Int)) = true := e
            have : n = g.length := by
              have := eq_of_beq e'
              omega
            rw [← this]
            exact hn
          · intro h
            exact ⟨g.length, h, beq_self_eq_true ((g.length : Nat) : Int)⟩
        show Q (.bl (inV (.int (g.length : Int)) (ns.map fun n : Nat => V.int (n : Int)))) H2
        rw [ei, fits_end inv]
        exact k H2 s2
end

/-! ### the law's look as a whole; flags drawn and handed -/
theorem depth2 (x y : Str) : (PyData.tuple [.str x, .str y]).depth ≤ 60 := by
  simp [PyData.depth, PyData.depthAll]
theorem shaped2 {x y : Str} (hx : okS x) (hy : okS y) : SeqAt.shaped (.tuple [.str x, .str y]) = true := by
  have h1 := okS_str hx
  have h2 := okS_str hy
  simp [SeqAt.shaped, PyData.canLay0, PyData.canLayAll0, PyData.depth, PyData.depthAll, h1, h2]
theorem shapedT : SeqAt.shaped (.tuple [.tuple [.str "1\n", .str "True\n"], .tuple [.str "0\n", .str "False\n"]]) = true := by decide +kernel
theorem truth_any (x y : Str) : ([PyData.tuple [.str "1\n", .str "True\n"], .tuple [.str "0\n", .str "False\n"]].any fun z => PyData.eqv z (.tuple [.str x, .str y])) = truth (tl x) (tl y) := by
  have e1 : tl ("1\n" : Str) = [49, 10] := by decide +kernel
  have e2 : tl ("0\n" : Str) = [48, 10] := by decide +kernel
  have e3 : tl ("True\n" : Str) = [84, 114, 117, 101, 10] := by decide +kernel
  have e4 : tl ("False\n" : Str) = [70, 97, 108, 115, 101, 10] := by decide +kernel
  have q : ∀ a b : Str, (a == b) = (tl b == tl a) := fun a b => by
    rw [Bool.eq_iff_iff, beq_iff_eq, beq_iff_eq]
    exact ⟨fun h => by rw [h], fun h => ext_tl h.symm⟩
  unfold truth
  simp only [List.any_cons, List.any_nil, PyData.eqv, PyData.eqvAll, Bool.and_true, Bool.or_false, q, e1, e2, e3, e4]
section
variable {P : Program} {w : World} {K : PySem.W.Frag} {mg : Str → Option Value} {base : Heap}
def sp_law_lets (K : PySem.W.Frag) : Sp := fun vs H Q _ => ∃ (x y : Str) (p : Addr) (rs : List Str), vs = [.str x, .str y, .ref p] ∧ x.length ≤ 1000000 ∧ y.length ≤ 1000000 ∧ okS x ∧ okS y ∧ SqA K H p (rs.map V.str) ∧ ∀ H', Same H H' → Q (.bl (letsF (tl x) (tl y) rs)) H'
theorem ok_law_lets {f : Addr} {fd : FuncData} {dvs : List V} (F : Fn K "_law_lets" s_law_lets dvs f fd) (O_law_cleared : Own P w K mg base "_law_cleared" 1 ["text", "is_want"] [] (sp_law_cleared)) (O_law_words : Own P w K mg base "_law_words" 1 ["text"] [] (sp_law_words)) (O_law_pieces : Own P w K mg base "_law_pieces" 1 ["text"] [] (sp_law_pieces)) (O_law_fits : Own P w K mg base "_law_fits" 1 ["pieces", "got"] [] (sp_law_fits)) (m_len : mg "len" = none) : FnOk P w K mg base CX0 2 f fd ["want", "got", "rules"] (sp_law_lets K) := by
  refine Fn.okN F sc_law_lets (fun vs H Q E h => ?_) (fun cdv A outer s H vs Q E hr h => ?_)
  · obtain ⟨_, _, _, _, rfl, _⟩ := h
    rfl
  · obtain ⟨x, y, p, rs, rfl, lx, ly, ox, oy, hp, k⟩ := h
    refine ⟨_, (pss_cons (ps_if (pt_cmpR op_eq (pv 0) (pv 1) (nomark _))
          (pss_one (ps_ret pe_bl))
          pss_nil)
      (pss_cut (ps_if (PW.pt (pw_and (pt_cmpR op_notIn_seq pe_str (pv 2) rfl) (pw_and1 (pt_cmpR (op_inT hr.units) (pe_tup (pa_cons (pv 0) (pa_cons (pv 1) pa_nil))) (pe_tup (pa_cons (pe_tup (pa_cons pe_str (pa_cons pe_str pa_nil))) (pa_cons (pe_tup (pa_cons pe_str (pa_cons pe_str pa_nil))) pa_nil))) rfl))))
          (pss_one (ps_ret pe_bl))
          pss_nil)
      (pss_cut (ps_if (pt_cmpR op_notIn_seq pe_str (pv 2) rfl)
          (pss_one (ps_par (i := 0) (j := 1) (by rfl) sc_law_lets.nd rfl rfl (by decide) rfl rfl (pa_cons (pe_own O_law_cleared (hr.mono (by decide)) (by rfl) (pa_cons (pv 0) (pa_cons pe_bl pa_nil))) (pa_cons (pe_own O_law_cleared (hr.mono (by decide)) (by rfl) (pa_cons (pv 1) (pa_cons pe_bl pa_nil))) pa_nil)) (by rfl)))
          pss_nil)
      (pss_cut (ps_if (pt_cmpR op_in_seq pe_str (pv 2) rfl)
          (pss_one (ps_par (i := 0) (j := 1) (by rfl) sc_law_lets.nd rfl rfl (by decide) rfl rfl (pa_cons (pe_own O_law_words (hr.mono (by decide)) (by rfl) (pa_cons (pv 0) pa_nil)) (pa_cons (pe_own O_law_words (hr.mono (by decide)) (by rfl) (pa_cons (pv 1) pa_nil)) pa_nil)) (by rfl)))
          pss_nil)
      (pss_cut (ps_set (i := 3) sc_law_lets.nd rfl (.inl rfl) (pe_ifExp (pt_cmpR op_in_seq pe_str (pv 2) rfl) (pe_own O_law_pieces (hr.mono (by decide)) (by rfl) (pa_cons (pv 0) pa_nil)) (pe_lst (pa_cons (pv 0) pa_nil))))
      (pss_one (ps_ret (pe_or (pe_cmpR op_eq (pv 0) (pv 1) (nomark _)) (pe_one (pe_and (pe_cmpR op_gt (pe_callB call_len_seq (by rfl) m_len PySem.boot_len (pa_cons (pv 3) pa_nil)) pe_int (nomark _)) (pe_one (pe_own O_law_fits (hr.mono (by decide)) (by rfl) (pa_cons (pv 3) (pa_cons (pv 1) pa_nil)))))))))))))), ?_⟩
    have k0 : ∀ (H' : Hp) (b : Bool), Same H H' → letsF (tl x) (tl y) rs = b → Q (.bl b) H' := fun H' b s e => by rw [← e]; exact k H' s
    unfold letsF lets at k0
    -- equal texts
    refine ⟨.str x, rfl, .str y, rfl, rfl, _, rfl, ?_⟩
    rw [dec_strs]
    by_cases h1 : tl x = tl y
    · rw [decide_eq_true h1]
      exact iteT (k0 H true (fun _ _ e => e) (by rw [if_pos h1]))
    rw [decide_eq_false h1]
    rw [if_neg h1] at k0
    refine iteF ?_
    -- truths
    refine ⟨fun σ H1 => σ = [some (.str x), some (.str y), some (.ref p), none] ∧ Same H H1 ∧ (!has "DONT_ACCEPT_TRUE_FOR_1" rs && truth (tl x) (tl y)) = false, ?_, ?_⟩
    · refine ⟨.ref p, rfl, p, _, rfl, hp, rfl, flat_strs rs, _, rfl, ?_⟩
      rw [inV_str]
      cases ht : has "DONT_ACCEPT_TRUE_FOR_1" rs with
      | true => exact iteF (iteF ⟨rfl, fun _ _ e => e, rfl⟩)
      | false =>
        rw [ht] at k0
        refine iteT ⟨.str x, rfl, .str y, rfl, by show 2 ≤ sizeLine; decide, fun T1 n1 => ?_⟩
        have s1 := same_new (o := .tup [.str x, .str y]) n1
        have t1 : (upd H T1 (.tup [.str x, .str y])) T1 = some (.tup [.str x, .str y]) := upd_same
        generalize upd H T1 (.tup [.str x, .str y]) = H1 at s1 t1 ⊢
        refine ⟨by decide, fun T2 n2 => ?_⟩
        have s2 := same_new (o := .tup [.str "1\n", .str "True\n"]) n2
        have t2 : (upd H1 T2 (.tup [.str "1\n", .str "True\n"])) T2 = some (.tup [.str "1\n", .str "True\n"]) := upd_same
        generalize upd H1 T2 (.tup [.str "1\n", .str "True\n"]) = H2 at s2 t2 ⊢
        refine ⟨by decide, fun T3 n3 => ?_⟩
        have s3 := same_new (o := .tup [.str "0\n", .str "False\n"]) n3
        have t3 : (upd H2 T3 (.tup [.str "0\n", .str "False\n"])) T3 = some (.tup [.str "0\n", .str "False\n"]) := upd_same
        generalize upd H2 T3 (.tup [.str "0\n", .str "False\n"]) = H3 at s3 t3 ⊢
        refine ⟨by show 2 ≤ sizeLine; decide, fun T4 n4 => ?_⟩
        have s4 := same_new (o := .tup [.ref T2, .ref T3]) n4
        refine ⟨_, _, .tup (SqT.of (s4 _ _ (s3 _ _ (s2 _ _ t1)))) (.cons (.str x) (.cons (.str y) .nil)), .tup (SqT.of upd_same) (.cons (.tup (SqT.of (s4 _ _ (s3 _ _ t2))) (.cons (.str _) (.cons (.str _) .nil))) (.cons (.tup (SqT.of (s4 _ _ t3)) (.cons (.str _) (.cons (.str _) .nil))) .nil)), shaped2 ox oy, shapedT, depth2 x y, _, rfl, ?_⟩
        rw [truth_any]
        have sa : Same H (upd H3 T4 (.tup [.ref T2, .ref T3])) := s1.trans (s2.trans (s3.trans s4))
        cases hc : truth (tl x) (tl y) with
        | true => exact iteT (k0 _ true sa (by rw [hc]; rfl))
        | false => exact iteF ⟨rfl, sa, rfl⟩
    rintro σ1 H1 ⟨rfl, s1, hc⟩
    rw [hc] at k0
    -- blank lines
    refine ⟨fun σ H2 => ∃ u v : Str, σ = [some (.str u), some (.str v), some (.ref p), none] ∧ Same H H2 ∧ tl u = shownW (has "DONT_ACCEPT_BLANKLINE" rs) false (tl x) ∧ tl v = shownG (has "DONT_ACCEPT_BLANKLINE" rs) false (tl y), ?_, ?_⟩
    · refine ⟨.ref p, rfl, p, _, rfl, seqA_of s1 hp, rfl, flat_strs rs, _, rfl, ?_⟩
      rw [inV_str]
      cases hb : has "DONT_ACCEPT_BLANKLINE" rs with
      | true => exact iteF ⟨x, y, rfl, s1, rfl, rfl⟩
      | false => exact iteT ⟨.str x, rfl, x, true, rfl, lx, ox, fun H2 s2 => ⟨.str y, rfl, y, false, rfl, ly, oy, fun H3 s3 => ⟨_, _, rfl, _, _, rfl, s1.trans (s2.trans s3), rfl, rfl⟩⟩⟩
    rintro σ2 H2 ⟨u, v, rfl, s2, hu, hv⟩
    have lu : u.length ≤ 1000000 := by
      rw [len_tl, hu]
      refine Nat.le_trans (shownW_len _ _ _) ?_
      rw [← len_tl]
      exact lx
    have lv : v.length ≤ 1000000 := by
      rw [len_tl, hv]
      refine Nat.le_trans (shownG_len _ _ _) ?_
      rw [← len_tl]
      exact ly
    -- words
    refine ⟨fun σ H3 => ∃ u v : Str, σ = [some (.str u), some (.str v), some (.ref p), none] ∧ Same H H3 ∧ tl u = shownW (has "DONT_ACCEPT_BLANKLINE" rs) (has "NORMALIZE_WHITESPACE" rs) (tl x) ∧ tl v = shownG (has "DONT_ACCEPT_BLANKLINE" rs) (has "NORMALIZE_WHITESPACE" rs) (tl y), ?_, ?_⟩
    · refine ⟨.ref p, rfl, p, _, rfl, seqA_of s2 hp, rfl, flat_strs rs, _, rfl, ?_⟩
      rw [inV_str]
      cases hn : has "NORMALIZE_WHITESPACE" rs with
      | false => exact iteF ⟨u, v, rfl, s2, hu, hv⟩
      | true =>
        refine iteT ⟨.str u, rfl, u, rfl, lu, fun H3 s3 => ⟨.str v, rfl, v, rfl, lv, fun H4 s4 => ⟨_, _, rfl, _, _, rfl, s2.trans (s3.trans s4), ?_, ?_⟩⟩⟩
        · rw [tl_arr, hu]
          rfl
        · rw [tl_arr, hv]
          rfl
    rintro σ3 H3 ⟨u, v, rfl, s3, hu, hv⟩
    have lu : u.length ≤ 1000000 := by
      rw [len_tl, hu]
      refine Nat.le_trans (shownW_len _ _ _) ?_
      rw [← len_tl]
      exact lx
    have lv : v.length ≤ 1000000 := by
      rw [len_tl, hv]
      refine Nat.le_trans (shownG_len _ _ _) ?_
      rw [← len_tl]
      exact ly
    rw [← hu, ← hv, if_neg Bool.false_ne_true] at k0
    -- pieces
    refine ⟨fun σ H4 => ∃ L, σ = [some (.str u), some (.str v), some (.ref p), some (.ref L)] ∧ Same H H4 ∧ H4 L = some (.lst (((if has "ELLIPSIS" rs = true then spl DT 0 [] (tl u) else [tl u]).map mk).map V.str)), ?_, ?_⟩
    · refine ⟨.ref p, rfl, p, _, rfl, seqA_of s3 hp, rfl, flat_strs rs, _, rfl, ?_⟩
      rw [inV_str]
      cases he : has "ELLIPSIS" rs with
      | false =>
        refine iteF ⟨.str u, rfl, by show 1 ≤ sizeLine; decide, fun L nL => ⟨L, rfl, s3.trans (same_new nL), ?_⟩⟩
        rw [upd_same]
        show some (HO.lst [V.str u]) = some (HO.lst [V.str (mk (tl u))])
        rw [mk_tl']
      | true => exact iteT ⟨.str u, rfl, u, rfl, lu, fun H4 L s4 _ eL => ⟨L, rfl, s3.trans s4, eL⟩⟩
    rintro σ4 H4 ⟨L, rfl, s4, eL⟩
    -- the answer
    refine ⟨.str u, rfl, .str v, rfl, rfl, _, rfl, ?_⟩
    rw [dec_strs]
    by_cases h2 : tl u = tl v
    · rw [decide_eq_true h2]
      exact iteT (k0 H4 true s4 (by rw [if_pos h2]))
    rw [decide_eq_false h2]
    rw [if_neg h2] at k0
    refine iteF ⟨.ref L, rfl, L, _, rfl, .inl (SqL.of eL), _, _, rfl, rfl, _, rfl, ?_⟩
    rw [List.length_map, List.length_map]
    cases he : has "ELLIPSIS" rs with
    | false =>
      refine iteF (k0 H4 false s4 ?_)
      rw [he]
      rfl
    | true =>
      rw [he] at k0 eL
      rw [if_pos rfl] at eL ⊢
      by_cases h3 : 1 < (spl DT 0 [] (tl u)).length
      · rw [decide_eq_true (show (((spl DT 0 [] (tl u)).length : Int) > 1) by omega)]
        have h4 : 1 < ((spl DT 0 [] (tl u)).map mk).length := by
          rw [List.length_map]
          exact h3
        obtain ⟨f, inner, z, e3⟩ := three_parts h4
        have e6 : spl DT 0 [] (tl u) = (f :: (inner ++ [z])).map tl := by
          rw [← e3, List.map_map]
          have : (tl ∘ mk) = id := by
            funext l
            rfl
          rw [this, List.map_id]
        have e5 : byPieces (tl u) (tl v) = inOrder (tl f) (inner.map tl) (tl z) (tl v) := byPieces_parts e6
        have sm : ∀ y ∈ f :: (inner ++ [z]), y.length ≤ 1000000 := fun y hy => by
          have h5 : tl y ∈ (Txt.split u ⟨DT.toArray⟩).map tl := by
            rw [splitOf u (y := DT) (by decide) (by decide), e6]
            exact List.mem_map.mpr ⟨y, hy, rfl⟩
          obtain ⟨y', hy', ey⟩ := List.mem_map.mp h5
          have : y = y' := ext_tl ey.symm
          subst this
          exact Nat.le_trans (split_mem u (by decide) (by decide) hy') lu
        rw [e3] at eL
        refine iteT ⟨.ref L, rfl, .str v, rfl, L, f, inner, z, v, rfl, eL, lv, sm, fun H5 s5 => ?_⟩
        exact k0 H5 _ (s4.trans s5) (by rw [e5, inOrder_eq]; rfl)
      · rw [decide_eq_false (show ¬ (((spl DT 0 [] (tl u)).length : Int) > 1) by omega)]
        exact iteF (k0 H4 false s4 (by rw [byPieces_one h3]; rfl))
end

/-! ### small words on texts that are drawn and joined -/
theorem len_app (x y : Str) : (x ++ y).length = x.length + y.length := by
  rw [len_tl, tl_append, List.length_append, ← len_tl, ← len_tl]
theorem okS_app {x y : Str} (hx : okS x) (hy : okS y) : okS (x ++ y) := by
  rw [okS_iff] at hx hy ⊢
  intro c hc
  rw [tl_append] at hc
  exact (List.mem_append.mp hc).elim (hx c) (hy c)
theorem okS_join {y : Str} (hy : okS y) : ∀ ws : List Str, (∀ w ∈ ws, okS w) → okS (Txt.join y ws) := by
  intro ws h
  rw [okS_iff] at hy ⊢
  rw [join_eq, tl_join]
  induction ws with
  | nil => intro c hc; cases hc
  | cons a r ih =>
    have ha := okS_iff.mp (h a (List.mem_cons_self ..))
    have ihr := ih fun w hw => h w (List.mem_cons_of_mem _ hw)
    cases r with
    | nil => exact ha
    | cons b r =>
      show ∀ c ∈ tl a ++ (tl y ++ joinL (tl y) ((b :: r).map tl)), c < 1114112
      intro c hc
      rcases List.mem_append.mp hc with h1 | h1
      · exact ha c h1
      · rcases List.mem_append.mp h1 with h2 | h2
        · exact hy c h2
        · exact ihr c h2
theorem ok_ascii {x : Str} (h : (tl x).all (· < 128) = true) : okS x := by
  rw [okS_iff]
  intro c hc
  have := of_decide_eq_true (List.all_eq_true.mp h c hc)
  omega
theorem menu_of {l : List Str} {m : Nat} (h : l.all (fun x => (tl x).all (· < 128) && decide (x.length ≤ m)) = true) {x : Str} (hx : x ∈ l) : okS x ∧ x.length ≤ m := by
  have := List.all_eq_true.mp h x hx
  rw [Bool.and_eq_true, decide_eq_true_eq] at this
  exact ⟨ok_ascii this.1, this.2⟩
theorem cutV_strs (fs : List Str) (lo hi : Option Int) : ∃ cs : List Str, cutV (fs.map V.str) lo hi = cs.map V.str ∧ (∀ x ∈ cs, x ∈ fs) ∧ cs.length ≤ fs.length := by
  refine ⟨(fs.drop (HT.sIx (fs.map V.str).length 0 lo)).take (HT.sIx (fs.map V.str).length (fs.map V.str).length hi - HT.sIx (fs.map V.str).length 0 lo), ?_, fun x hx => List.mem_of_mem_drop (List.mem_of_mem_take hx), ?_⟩
  · unfold cutV
    rw [List.map_take, List.map_drop]
  · rw [List.length_take, List.length_drop]
    omega
theorem fresh_ne {H : Hp} {D A B p : Addr} {n : Int} (d : Drw H D A B n) (h : H p = none) : p ≠ D ∧ p ≠ A := by
  obtain ⟨⟨_, e1⟩, ⟨_, e2⟩, _⟩ := d.tracked
  exact ⟨(ne_of_none e1 h).symm, (ne_of_none e2 h).symm⟩

/-! ### flags drawn, flags handed -/
section
variable {P : Program} {w : World} {K : PySem.W.Frag} {mg : Str → Option Value} {base : Heap}
def RULES : List Str := ["DONT_ACCEPT_TRUE_FOR_1", "DONT_ACCEPT_BLANKLINE", "NORMALIZE_WHITESPACE", "ELLIPSIS"]
def sp_law_rules : Sp := fun vs H Q _ => ∃ (D A B : Addr) (n : Int), vs = [.ref D] ∧ Drw H D A B n ∧ n < 900000 ∧
  ∀ (H' : Hp) (p : Addr) (rs : List Str) (n' : Int), Drw H' D A B n' → n' ≤ n + 4 → Kept D A H H' → H p = none → H' p = some (.lst (rs.map V.str)) → (∀ x ∈ rs, x ∈ RULES) → rs.length ≤ 4 → Q (.ref p) H'
theorem ok_law_rules {f : Addr} {fd : FuncData} {dvs : List V} (F : Fn K "_law_rules" s_law_rules dvs f fd) (O_law_take : Own P w K mg base "_law_take" 2 ["draws", "size"] [] (sp_law_take)) : FnOk P w K mg base CX0 3 f fd ["draws"] (sp_law_rules) := by
  refine Fn.okN F sc_law_rules (fun vs H Q E h => ?_) (fun cdv A outer s H vs Q E hr h => ?_)
  · obtain ⟨_, _, _, _, rfl, _⟩ := h
    rfl
  · obtain ⟨D, A1, B, n, rfl, dr, hn, k⟩ := h
    refine ⟨_, (pss_cons (ps_set (i := 1) sc_law_rules.nd rfl (.inl rfl) (pe_lst (pa_cons pe_str (pa_cons pe_str (pa_cons pe_str (pa_cons pe_str pa_nil))))))
      (pss_one (ps_ret (pe_lc (own := [("word", 2)]) (g := gName 2) (by rfl) sc_law_rules.nd (pi_list (pv 1)) (blkOk_by (own := [("word", 2)]) (N := ["draws", "words", "word"]) (sc := defScope s_law_rules) (by decide +kernel)) (fun _ _ _ _ _ => (pg_name (i := 2) sc_law_rules.nd rfl (.inl rfl))) (fun _ _ _ _ _ => (pts_one (pt_cmpR op_eq (pe_own O_law_take (hr.mono (by decide)) (by rfl) (pa_cons (pv 0) (pa_cons pe_int pa_nil))) pe_int (nomark _)))) (fun _ _ _ _ _ => (pv 2)))))), ?_⟩
    refine ⟨by decide, fun W nW => ?_⟩
    have drW := dr.new (o := .lst (RULES.map V.str)) nW
    have eW : (upd H W (.lst (RULES.map V.str))) W = some (.lst (RULES.map V.str)) := upd_same
    have kW : Kept D A1 H (upd H W (.lst (RULES.map V.str))) := Kept.of (same_new nW)
    obtain ⟨⟨_, eD⟩, ⟨_, eA⟩, ⟨_, eB⟩⟩ := dr.tracked
    have WD : W ≠ D := (ne_of_none eD nW).symm
    have WA : W ≠ A1 := (ne_of_none eA nW).symm
    refine ⟨.ref W, rfl, W, rfl, ⟨_, SqL.of eW⟩, fun L nL => ?_⟩
    have nL0 : H L = none := (same_new nW).free nL
    have LD : L ≠ D := (ne_of_none eD nL0).symm
    have LA : L ≠ A1 := (ne_of_none eA nL0).symm
    have LB : L ≠ B := (ne_of_none eB nL0).symm
    have LW : W ≠ L := ne_of_none eW nL
    refine lc_list (K := K) (a := W) (xs := RULES.map V.str) (fun i H2 => ∃ (rs : List Str) (m : Int), H2 L = some (.lst (rs.map V.str)) ∧ (∀ x ∈ rs, x ∈ RULES) ∧ rs.length ≤ i ∧ Drw H2 D A1 B m ∧ m ≤ n + i ∧ H2 W = some (.lst (RULES.map V.str)) ∧ Kept D A1 H H2)
      ⟨[], n, upd_same, (by intro x h; cases h), Nat.le_refl _, drW.new nL, by omega, by rw [upd_ne LW]; exact eW, fun b o e n1 n2 => by rw [upd_ne (ne_of_none e nL0)]; exact kW b o e n1 n2⟩ (fun i H2 _ h => by obtain ⟨_, _, _, _, _, _, _, h, _⟩ := h; exact SqL.of h) ?_ ?_
    · rintro i v H2 hv ⟨rs, m, eL, hr, lr, d2, hm, eW2, k2⟩
      obtain ⟨z, rfl, hz⟩ := str_at hv
      have hi : i < RULES.length := (List.getElem?_eq_some_iff.mp hz).1
      have hi' : i < 4 := hi
      have hzm := List.mem_of_getElem? hz
      refine ⟨rfl, .ref D, rfl, D, A1, B, m, 2, rfl, d2, by omega, by decide, by decide, fun r H3 r0 r1 d3 k3 => ⟨rfl, _, rfl, ite2 (fun _ => ?_) (fun _ => ?_)⟩⟩
      · refine ⟨.str z, rfl, _, k3 _ _ eL LD LA, by rw [List.length_map]; exact small1000 (by omega), rs ++ [z], m + 1, ?_, fun x hx => ?_, ?_, d3.upd LD LA LB, by omega, ?_, fun b o e n1 n2 => ?_⟩
        · rw [upd_same, List.map_append]
          rfl
        · rcases List.mem_append.mp hx with h | h
          · exact hr x h
          · rw [List.mem_singleton.mp h]
            exact hzm
        · rw [List.length_append]
          show rs.length + 1 ≤ i + 1
          omega
        · rw [upd_ne LW]
          exact k3 _ _ eW2 WD WA
        · rw [upd_ne (ne_of_none e nL0)]
          exact k3 b o (k2 b o e n1 n2) n1 n2
      · exact ⟨rs, m + 1, k3 _ _ eL LD LA, hr, by omega, d3, by omega, k3 _ _ eW2 WD WA, fun b o e n1 n2 => k3 b o (k2 b o e n1 n2) n1 n2⟩
    · rintro H2 ⟨rs, m, eL, hr, lr, d2, hm, eW2, k2⟩
      have e4 : (RULES.map V.str).length = 4 := rfl
      rw [e4] at lr hm
      exact k H2 L rs m d2 hm k2 nL0 eL hr lr
/-- the same texts, in any order, some twice -/
def sp_law_handed : Sp := fun vs H Q _ => ∃ (D A B p : Addr) (n : Int) (rs : List Str), vs = [.ref D, .ref p] ∧ Drw H D A B n ∧ n < 900000 ∧ H p = some (.lst (rs.map V.str)) ∧ p ≠ D ∧ p ≠ A ∧ rs.length ≤ 100 ∧ (∀ x ∈ rs, okS x) ∧
  ∀ (H' : Hp) (q : Addr) (xs : List Str) (n' : Int), Drw H' D A B n' → n' ≤ n + rs.length + 2 → Kept D A H H' → SeqO H' q (xs.map V.str) → (∀ x, x ∈ xs ↔ x ∈ rs) → Q (.ref q) H'
theorem mem_erase {α : Type} {l : List α} {j : Nat} {a : α} (h : l[j]? = some a) (x : α) : x ∈ l ↔ x = a ∨ x ∈ l.eraseIdx j := by
  have hj := (List.getElem?_eq_some_iff.mp h).1
  have e : l = l.take j ++ a :: l.drop (j + 1) := by
    have e2 : l[j] = a := (List.getElem?_eq_some_iff.mp h).2
    rw [← e2, List.getElem_cons_drop, List.take_append_drop]
  have e3 : l.eraseIdx j = l.take j ++ l.drop (j + 1) := List.eraseIdx_eq_take_drop_succ _ _
  rw [e3]
  conv => lhs; rw [e]
  simp only [List.mem_append, List.mem_cons]
  constructor
  · rintro (h | h | h)
    · exact .inr (.inl h)
    · exact .inl h
    · exact .inr (.inr h)
  · rintro (h | h | h)
    · exact .inr (.inl h)
    · exact .inl h
    · exact .inr (.inr h)
theorem ok_law_handed {f : Addr} {fd : FuncData} {dvs : List V} (F : Fn K "_law_handed" s_law_handed dvs f fd) (O_law_take : Own P w K mg base "_law_take" 2 ["draws", "size"] [] (sp_law_take)) (m_len : mg "len" = none) (m_list : mg "list" = none) (m_tuple : mg "tuple" = none) : FnOk P w K mg base CX0 3 f fd ["draws", "rules"] (sp_law_handed) := by
  refine Fn.okN F sc_law_handed (fun vs H Q E h => ?_) (fun cdv A outer s H vs Q E hr h => ?_)
  · obtain ⟨_, _, _, _, _, _, rfl, _⟩ := h
    rfl
  · obtain ⟨D, A1, B, p, n, rs, rfl, dr, hn, hp, pD, pA, lr, okr, k⟩ := h
    refine ⟨_, (pss_cons (ps_par (i := 2) (j := 3) (by rfl) sc_law_handed.nd rfl rfl (by decide) rfl rfl (pa_cons (pe_callTy call_list_of (by rfl) m_list (by decide +kernel) (pa_cons (pv 1) pa_nil)) (pa_cons (pe_lst pa_nil) pa_nil)) (by rfl))
      (pss_cons (ps_while PassesOwn.never (pt_cmpR (op_neD hr.units) (pv 2) (pe_lst pa_nil) (nomark _))
          (pss_one (ps_expr (pe_bm PySem.F.plainAttrs_list PySem.F.slot_list_append PySem.F.type_list_append mt_append (pv 3) (pa_cons (pe_bm PySem.F.plainAttrs_list PySem.F.slot_list_pop PySem.F.type_list_pop mt_popAt (pv 2) (pa_cons (pe_own O_law_take (hr.mono (by decide)) (by rfl) (pa_cons (pv 0) (pa_cons (pe_callB call_len_seq (by rfl) m_len PySem.boot_len (pa_cons (pv 2) pa_nil)) pa_nil))) pa_nil)) pa_nil)))))
      (pss_cons (ps_set (i := 3) sc_law_handed.nd rfl (.inl rfl) (pe_op op_cat (pv 3) (pe_slice sl_list (pv 3) po_none (po_some (pe_own O_law_take (hr.mono (by decide)) (by rfl) (pa_cons (pv 0) (pa_cons pe_int pa_nil)))))))
      (pss_one (ps_ret (pe_ix ix_list (pe_lst (pa_cons (pv 3) (pa_cons (pe_callTy call_tuple_of (by rfl) m_tuple (by decide +kernel) (pa_cons (pv 3) pa_nil)) pa_nil))) (pe_own O_law_take (hr.mono (by decide)) (by rfl) (pa_cons (pv 0) (pa_cons pe_int pa_nil))) (fun _ _ => rfl))))))), ?_⟩
    obtain ⟨⟨_, eD⟩, ⟨_, eA⟩, ⟨_, eB⟩⟩ := dr.tracked
    -- left, found
    refine ⟨.ref p, rfl, p, _, rfl, .inl (SqL.of hp), fun Lf nLf => ?_⟩
    have s1 := same_new (o := .lst (rs.map V.str)) nLf
    have eL1 : (upd H Lf (.lst (rs.map V.str))) Lf = some (.lst (rs.map V.str)) := upd_same
    have LD : Lf ≠ D := (ne_of_none eD nLf).symm
    have LA : Lf ≠ A1 := (ne_of_none eA nLf).symm
    have LB : Lf ≠ B := (ne_of_none eB nLf).symm
    generalize upd H Lf (.lst (rs.map V.str)) = H1 at s1 eL1 ⊢
    refine ⟨Nat.zero_le _, fun F nF => ⟨_, _, rfl, ?_⟩⟩
    have s2 := same_new (o := .lst []) nF
    have nF0 : H F = none := s1.free nF
    have FD : F ≠ D := (ne_of_none eD nF0).symm
    have FA : F ≠ A1 := (ne_of_none eA nF0).symm
    have FB : F ≠ B := (ne_of_none eB nF0).symm
    have LF : Lf ≠ F := ne_of_none eL1 nF
    have eF2 : (upd H1 F (.lst [])) F = some (.lst []) := upd_same
    have eL2 := s2 _ _ eL1
    have k2 : Kept D A1 H (upd H1 F (.lst [])) := Kept.of (s1.trans s2)
    have d2 : Drw (upd H1 F (.lst [])) D A1 B n := dr.same (s1.trans s2)
    generalize upd H1 F (.lst []) = H2 at eF2 eL2 k2 d2 ⊢
    refine while_by (fun σ H3 => σ = [some (.ref D), some (.ref p), some (.ref Lf), some (.ref F)] ∧ ∃ (ls fs : List Str) (m : Int), H3 Lf = some (.lst (ls.map V.str)) ∧ H3 F = some (.lst (fs.map V.str)) ∧ Drw H3 D A1 B m ∧ m = n + fs.length ∧ ls.length + fs.length = rs.length ∧ (∀ x, x ∈ rs ↔ x ∈ ls ∨ x ∈ fs) ∧ (∀ b o, H b = some o → b ≠ D → b ≠ A1 → H3 b = some o))
      (fun _ H3 => match H3 Lf with | some (.lst l) => l.length | _ => 0) ⟨rfl, rs, [], n, eL2, eF2, d2, by simp, by simp, fun x => by simp, k2⟩ ?_ ?_
    · rintro σ H3 ⟨rfl, ls, fs, m, eL3, eF3, d3, hm, hlen, hmem, k3⟩
      refine ⟨.ref Lf, rfl, Nat.zero_le _, fun N nN => ?_⟩
      have sN := same_new (o := .lst []) nN
      have ok3 : ∀ x ∈ ls, okS x := fun x hx => okr x ((hmem x).mpr (.inl hx))
      have kN : ∀ b o, H b = some o → b ≠ D → b ≠ A1 → (upd H3 N (.lst [])) b = some o := fun b o e n1 n2 => sN _ _ (k3 b o e n1 n2)
      have dN := d3.same sN
      have eLN := sN _ _ eL3
      have eFN := sN _ _ eF3
      refine ⟨_, _, .lst (SqL.of eLN) (dp_strs ls), .lst (SqL.of upd_same) .nil, shaped_strs ls ok3, shaped_strs [] (by intro x h; cases h), _, rfl, ?_⟩
      rw [eqv_nilS]
      generalize upd H3 N (.lst []) = H4 at kN dN eLN eFN ⊢
      obtain ⟨⟨_, gD⟩, ⟨_, gA⟩, ⟨_, gB⟩⟩ := dN.tracked
      cases ls with
      | nil =>
        refine iteF ?_
        -- found + found[:..]
        have lf : fs.length = rs.length := by simpa using hlen
        refine ⟨.ref F, rfl, .ref F, rfl, .ref D, rfl, D, A1, B, m, 2, rfl, dN, by omega, by decide, by decide, fun r H5 r0 r1 d5 k5 => ?_⟩
        have eF5 := k5 _ _ eFN FD FA
        refine ⟨r, rfl, F, _, rfl, SqL.of eF5, fun C nC => ?_⟩
        have sC := same_new (o := .lst (cutV (fs.map V.str) none (some r))) nC
        have dC := d5.same sC
        have kC : ∀ b o, H b = some o → b ≠ D → b ≠ A1 → (upd H5 C (.lst (cutV (fs.map V.str) none (some r)))) b = some o := fun b o e n1 n2 => sC _ _ (k5 b o (kN b o e n1 n2) n1 n2)
        have eCut : ∃ cs : List Str, cutV (fs.map V.str) none (some r) = cs.map V.str ∧ (∀ x ∈ cs, x ∈ fs) ∧ cs.length ≤ fs.length := by
          refine ⟨(fs.drop (HT.sIx (fs.map V.str).length 0 none)).take (HT.sIx (fs.map V.str).length (fs.map V.str).length (some r) - HT.sIx (fs.map V.str).length 0 none), ?_, fun x hx => List.mem_of_mem_drop (List.mem_of_mem_take hx), ?_⟩
          · unfold cutV
            rw [List.map_take, List.map_drop]
          · rw [List.length_take, List.length_drop]
            omega
        obtain ⟨cs, ecs, mcs, lcs⟩ := eCut
        rw [ecs] at dC kC sC ⊢
        have eC : (upd H5 C (.lst (cs.map V.str))) C = some (.lst (cs.map V.str)) := upd_same
        have eF6 := sC _ _ eF5
        generalize upd H5 C (.lst (cs.map V.str)) = H6 at dC kC eC eF6 ⊢
        refine ⟨F, C, _, _, rfl, rfl, eF6, eC, ?_, fun G nG => ?_⟩
        · rw [List.length_map, List.length_map, sizeLine_eq]
          omega
        have sG := same_new (o := .lst (fs.map V.str ++ cs.map V.str)) nG
        have dG := dC.same sG
        have eG : (upd H6 G (.lst (fs.map V.str ++ cs.map V.str))) G = some (.lst (fs.map V.str ++ cs.map V.str)) := upd_same
        have kG : ∀ b o, H b = some o → b ≠ D → b ≠ A1 → (upd H6 G (.lst (fs.map V.str ++ cs.map V.str))) b = some o := fun b o e n1 n2 => sG _ _ (kC b o e n1 n2)
        have memG : ∀ x, x ∈ fs ++ cs ↔ x ∈ rs := fun x => by
          rw [List.mem_append, hmem]
          constructor
          · rintro (h | h)
            · exact .inr h
            · exact .inr (mcs x h)
          · rintro (h | h)
            · cases h
            · exact .inl h
        rw [← List.map_append] at eG dG kG sG ⊢
        generalize upd H6 G (.lst ((fs ++ cs).map V.str)) = H7 at dG kG eG ⊢
        refine ⟨.ref G, rfl, .ref G, rfl, G, _, rfl, .inl ⟨SqL.of eG, fun T nT => ?_⟩⟩
        have sT := same_new (o := .tup ((fs ++ cs).map V.str)) nT
        have eT : (upd H7 T (.tup ((fs ++ cs).map V.str))) T = some (.tup ((fs ++ cs).map V.str)) := upd_same
        have eG8 := sT _ _ eG
        have d8 := dG.same sT
        have k8 : ∀ b o, H b = some o → b ≠ D → b ≠ A1 → (upd H7 T (.tup ((fs ++ cs).map V.str))) b = some o := fun b o e n1 n2 => sT _ _ (kG b o e n1 n2)
        generalize upd H7 T (.tup ((fs ++ cs).map V.str)) = H8 at eT eG8 d8 k8 ⊢
        refine ⟨by show 2 ≤ sizeLine; decide, fun U nU => ?_⟩
        have sU := same_new (o := .lst [.ref G, .ref T]) nU
        have eU : (upd H8 U (.lst [.ref G, .ref T])) U = some (.lst [.ref G, .ref T]) := upd_same
        have d9 := d8.same sU
        have eG9 := sU _ _ eG8
        have eT9 := sU _ _ eT
        have k9 : ∀ b o, H b = some o → b ≠ D → b ≠ A1 → (upd H8 U (.lst [.ref G, .ref T])) b = some o := fun b o e n1 n2 => sU _ _ (k8 b o e n1 n2)
        generalize upd H8 U (.lst [.ref G, .ref T]) = H9 at eU d9 eG9 eT9 k9 ⊢
        obtain ⟨⟨_, c1⟩, ⟨_, c2⟩, _⟩ := dC.tracked
        obtain ⟨⟨_, c3⟩, ⟨_, c4⟩, _⟩ := dG.tracked
        obtain ⟨⟨_, c5⟩, ⟨_, c6⟩, _⟩ := d8.tracked
        have GD : G ≠ D := (ne_of_none c1 nG).symm
        have GA : G ≠ A1 := (ne_of_none c2 nG).symm
        have TD : T ≠ D := (ne_of_none c3 nT).symm
        have TA : T ≠ A1 := (ne_of_none c4 nT).symm
        have UD : U ≠ D := (ne_of_none c5 nU).symm
        have UA : U ≠ A1 := (ne_of_none c6 nU).symm
        refine ⟨.ref D, rfl, D, A1, B, m + 1, 2, rfl, d9, by omega, by decide, by decide, fun r2 H10 q0 q1 d10 k10 => ?_⟩
        have kk : Kept D A1 H H10 := fun b o e n1 n2 => k10 b o (k9 b o e n1 n2) n1 n2
        have nb : m + 1 + 1 ≤ n + (rs.length : Int) + 2 := by omega
        rcases (show r2 = 0 ∨ r2 = 1 by omega) with rfl | rfl
        · exact ⟨U, _, 0, .ref G, rfl, rfl, SqL.of (k10 _ _ eU UD UA), atI_nat (j := 0) rfl, k H10 G (fs ++ cs) _ d10 nb kk (.inl (k10 _ _ eG9 GD GA)) memG⟩
        · exact ⟨U, _, 1, .ref T, rfl, rfl, SqL.of (k10 _ _ eU UD UA), atI_nat (j := 1) rfl, k H10 T (fs ++ cs) _ d10 nb kk (.inr (k10 _ _ eT9 TD TA)) memG⟩
      | cons a t =>
        refine iteT ?_
        have hlen' : (a :: t).length + fs.length = rs.length := hlen
        have l1 : (a :: t).length = t.length + 1 := rfl
        refine ⟨.ref F, rfl, .inl ⟨rfl, _, SqL.of eFN⟩, .ref Lf, rfl, .inl ⟨rfl, _, SqL.of eLN⟩, .ref D, rfl, .ref Lf, rfl, Lf, _, rfl, .inl (SqL.of eLN), D, A1, B, m, _, rfl, dN, by omega, ?_, ?_, fun r H5 r0 r1 d5 k5 => ?_⟩
        · rw [List.length_map]
          omega
        · rw [List.length_map]
          omega
        rw [List.length_map] at r1
        obtain ⟨j, rfl⟩ : ∃ j : Nat, r = (j : Int) := ⟨_, (Int.toNat_of_nonneg r0).symm⟩
        have jl : j < (a :: t).length := by omega
        have gj : (a :: t)[j]? = some ((a :: t)[j]'jl) := List.getElem?_eq_getElem jl
        generalize (a :: t)[j]'jl = y at gj
        have eL5 := k5 _ _ eLN LD LA
        have eF5 := k5 _ _ eFN FD FA
        have eFu : (upd H5 Lf (.lst (((a :: t).map V.str).eraseIdx j))) F = some (.lst (fs.map V.str)) := by
          rw [upd_ne LF.symm]
          exact eF5
        refine ⟨Lf, _, (j : Int), j, .str y, rfl, rfl, eL5, by omega, by omega, ?_, by rw [List.getElem?_map, gj]; rfl, F, _, _, rfl, rfl, eFu, ?_, ?_⟩
        · refine (ixN_seq (j := j) ?_).1
          unfold ixN
          rw [if_pos (by omega), if_pos (by rw [List.length_map]; omega)]
          rfl
        · rw [List.length_map, sizeLine_eq]
          omega
        · have ee : ((a :: t).map V.str).eraseIdx j = ((a :: t).eraseIdx j).map V.str := by
            rw [List.eraseIdx_eq_take_drop_succ, List.eraseIdx_eq_take_drop_succ, List.map_append, List.map_take, List.map_drop]
          have le : ((a :: t).eraseIdx j).length = t.length := by
            rw [List.length_eraseIdx, if_pos jl]
            omega
          have eL7 : (upd (upd H5 Lf (.lst (((a :: t).map V.str).eraseIdx j))) F (.lst (fs.map V.str ++ [.str y]))) Lf = some (.lst (((a :: t).eraseIdx j).map V.str)) := by
            rw [upd_ne LF, upd_same, ee]
          refine ⟨⟨rfl, (a :: t).eraseIdx j, fs ++ [y], m + 1, eL7, ?_, (d5.upd LD LA LB).upd FD FA FB, ?_, ?_, fun x => ?_, fun b o e n1 n2 => ?_⟩, ?_⟩
          · rw [upd_same, List.map_append]
            rfl
          · rw [List.length_append, hm]
            show n + (fs.length : Int) + 1 = n + ((fs.length + 1 : Nat) : Int)
            omega
          · rw [le, List.length_append]
            show t.length + (fs.length + 1) = rs.length
            omega
          · rw [hmem, mem_erase gj, List.mem_append, List.mem_singleton]
            constructor
            · rintro ((h | h) | h)
              · exact .inr (.inr h)
              · exact .inl h
              · exact .inr (.inl h)
            · rintro (h | h | h)
              · exact .inl (.inr h)
              · exact .inr h
              · exact .inl (.inl h)
          · rw [upd_ne (ne_of_none e nF0), upd_ne (ne_of_none e nLf)]
            exact k5 b o (kN b o e n1 n2) n1 n2
          · show (match (upd (upd H5 Lf (.lst (((a :: t).map V.str).eraseIdx j))) F (.lst (fs.map V.str ++ [.str y]))) Lf with | some (.lst l) => l.length | _ => 0) < (match H3 Lf with | some (.lst l) => l.length | _ => 0)
            rw [eL7, eL3]
            show (((a :: t).eraseIdx j).map V.str).length < ((a :: t).map V.str).length
            rw [List.length_map, List.length_map, le]
            exact Nat.lt_succ_self _
    · rintro σ H4 Q1 Q2 i ⟨v, e1, h1, h2⟩
      refine ⟨v, e1, h1, fun pp np => ?_⟩
      obtain ⟨d, e, a1, a2, a3, a4, b, e5, q⟩ := h2 pp np
      exact ⟨d, e, a1, a2, a3, a4, b, e5, i _ _ q⟩
end

/-! ### x.rpartition(sep) -/
section
variable {X : Cx}
theorem mt_rpart : MtR X "str.rpartition" (fun x xs H Q => ∃ a b, x = .str a ∧ xs = [.str b] ∧ (b.length == 0) = false ∧ a.length ≤ sizeLine ∧
    ∀ p, H p = none → Q (.ref p) (upd H p (.tup [.str (Txt.rpartition a b).1, .str (Txt.rpartition a b).2.1, .str (Txt.rpartition a b).2.2]))) := by
  intro pins s σ H x xs v us Q I rx rs h
  obtain ⟨a, b, rfl, rfl, hb, hz, h⟩ := h
  obtain ⟨t, rfl⟩ := rx
  cases rs with
  | cons r1 rs =>
    cases rs
    obtain ⟨u, rfl⟩ := r1
    refine call_meets F.slot_str_rpartition (typeIs_str _ _ _) F.entry_str_rpartition (F.args_str_rpartition_2 _ _) (meets_str_rpartition a b t u hb hz) ?_
    unfold Txt.rpartition at h
    revert h
    cases Builtin.Str.lastOccurrence a b 0 a.length with
    | none => intro h; exact laid_parts I h
    | some i => intro h; exact laid_parts I h
end

/-! ### the mathematics of a name -/
/-- what is ahead of the first c -/
def ahead (c : Nat) (l : List Nat) : List Nat := l.takeWhile (fun d => !(d == c))
/-- what is behind the last c -/
def behind (c : Nat) (l : List Nat) : List Nat := l.foldl (fun acc d => if d == c then [] else acc ++ [d]) []

theorem ahead_none {c : Nat} {l : List Nat} (h : c ∉ l) : ahead c l = l := by
  unfold ahead
  induction l with
  | nil => rfl
  | cons d r ih =>
    have h1 : (d == c) = false := beq_eq_false_iff_ne.mpr fun e => h (by rw [e]; exact List.mem_cons_self ..)
    rw [List.takeWhile_cons, h1]
    show d :: _ = _
    rw [ih fun m => h (List.mem_cons_of_mem _ m)]
theorem ahead_some {c : Nat} {a b : List Nat} (h : c ∉ a) : ahead c (a ++ c :: b) = a := by
  unfold ahead
  induction a with
  | nil =>
    show List.takeWhile _ (c :: b) = []
    rw [List.takeWhile_cons, beq_self_eq_true]
    rfl
  | cons d r ih =>
    have h1 : (d == c) = false := beq_eq_false_iff_ne.mpr fun e => h (by rw [e]; exact List.mem_cons_self ..)
    show List.takeWhile _ (d :: (r ++ c :: b)) = _
    rw [List.takeWhile_cons, h1]
    show d :: _ = _
    rw [ih fun m => h (List.mem_cons_of_mem _ m)]
theorem split_at {c : Nat} : ∀ {l : List Nat}, c ∈ l → ∃ a b, l = a ++ c :: b ∧ c ∉ a
  | d :: r, h => by
    by_cases e : d = c
    · exact ⟨[], r, by rw [e]; rfl, by simp⟩
    · have h2 : c ∈ r := by
        rcases List.mem_cons.mp h with z | z
        · exact absurd z.symm e
        · exact z
      obtain ⟨a, b, rfl, hn⟩ := split_at h2
      refine ⟨d :: a, b, rfl, fun m => ?_⟩
      rcases List.mem_cons.mp m with z | z
      · exact e z.symm
      · exact hn z
theorem part_ahead (x : Str) (c : Nat) : tl (Txt.partition x ⟨#[c]⟩).1 = ahead c (tl x) := by
  have ey : tl (⟨#[c]⟩ : Str) = c :: [] := rfl
  by_cases h : c ∈ tl x
  · obtain ⟨a, b, e, hn⟩ := split_at h
    have ex : x = (⟨a.toArray⟩ : Str) ++ ⟨#[c]⟩ ++ ⟨b.toArray⟩ := ext_tl (by
      rw [tl_append, tl_append, e]
      simp [tl])
    have hp : Txt.partition x ⟨#[c]⟩ = ((⟨a.toArray⟩ : Str), (⟨#[c]⟩ : Str), (⟨b.toArray⟩ : Str)) := by
      rw [ex]
      exact partition_app ey hn
    rw [hp, e, ahead_some hn]
  · rw [partition_none ey h, ahead_none h]
theorem behind_go {c : Nat} : ∀ {l acc : List Nat}, c ∉ l → l.foldl (fun acc d => if d == c then [] else acc ++ [d]) acc = acc ++ l
  | [], acc, _ => by simp
  | d :: r, acc, h => by
    have h1 : (d == c) = false := beq_eq_false_iff_ne.mpr fun e => h (by rw [e]; exact List.mem_cons_self ..)
    rw [List.foldl_cons, h1]
    show List.foldl _ (acc ++ [d]) r = _
    rw [behind_go (fun m => h (List.mem_cons_of_mem _ m)), List.append_assoc]
    rfl
theorem behind_none {c : Nat} {l : List Nat} (h : c ∉ l) : behind c l = l := by
  unfold behind
  rw [behind_go h]
  rfl
theorem behind_some {c : Nat} {a b : List Nat} (h : c ∉ b) : behind c (a ++ c :: b) = b := by
  unfold behind
  rw [List.foldl_append, List.foldl_cons, beq_self_eq_true]
  show List.foldl _ [] b = b
  rw [behind_go h]
  rfl
theorem rpart_behind (x : Str) (c : Nat) : tl (Txt.rpartition x ⟨#[c]⟩).2.2 = behind c (tl x) := by
  unfold Txt.rpartition
  rcases StrLaws.last_spec x ⟨#[c]⟩ with ⟨e, hn⟩ | ⟨i, e, hi, hn⟩
  · rw [e]
    refine (behind_none fun m => ?_).symm
    obtain ⟨i, hi⟩ := (mem_iff_at x c).mp m
    exact hn i hi
  · rw [e]
    show tl (Builtin.Str.strSub x (i + 1) x.length) = _
    have g := (StrLaws.subAt_one x c i).mp hi
    have hl : i < (tl x).length := (List.getElem?_eq_some_iff.mp g).1
    have e1 : tl x = (tl x).take i ++ c :: (tl x).drop (i + 1) := by
      have e2 : (tl x)[i] = c := (List.getElem?_eq_some_iff.mp g).2
      rw [← e2, List.getElem_cons_drop, List.take_append_drop]
    rw [tl_strSub_end]
    have hb : c ∉ (tl x).drop (i + 1) := fun m => by
      obtain ⟨k, hk⟩ := List.mem_iff_getElem?.mp m
      rw [List.getElem?_drop] at hk
      exact hn (i + 1 + k) (by omega) ((StrLaws.subAt_one x c _).mpr hk)
    conv => rhs; rw [e1]
    rw [behind_some hb]

/-- the loop of the law -/
def stp (s : List Nat × Bool) (c : Nat) : List Nat × Bool :=
  if (s.2 || (c == 10 || c == 58)) = true then (s.1, true) else ((if c == 46 then [] else s.1 ++ [c]), false)
def nameOf (l : List Nat) : List Nat := behind 46 (ahead 58 (ahead 10 l))
theorem stp_over : ∀ (l : List Nat) (d : List Nat), l.foldl stp (d, true) = (d, true)
  | [], _ => rfl
  | c :: r, d => by
    rw [List.foldl_cons]
    show List.foldl stp (d, true) r = _
    exact stp_over r d
theorem ahead_cons (c d : Nat) (l : List Nat) : ahead c (d :: l) = if d == c then [] else d :: ahead c l := by
  unfold ahead
  rw [List.takeWhile_cons]
  cases (d == c) <;> rfl
theorem stp_name : ∀ (l acc : List Nat), (l.foldl stp (acc, false)).1 = (ahead 58 (ahead 10 l)).foldl (fun acc d => if d == 46 then [] else acc ++ [d]) acc
  | [], _ => rfl
  | c :: r, acc => by
    rw [List.foldl_cons]
    by_cases h1 : (c == 10) = true
    · have e1 : stp (acc, false) c = (acc, true) := by
        unfold stp
        rw [h1]
        rfl
      rw [e1, stp_over, ahead_cons, h1]
      rfl
    · have h1' : (c == 10) = false := by
        cases z : (c == 10) with
        | true => exact absurd z h1
        | false => rfl
      by_cases h2 : (c == 58) = true
      · have e1 : stp (acc, false) c = (acc, true) := by
          unfold stp
          rw [h2, Bool.or_true]
          rfl
        rw [e1, stp_over, ahead_cons, h1']
        show acc = List.foldl _ acc (ahead 58 (c :: ahead 10 r))
        rw [ahead_cons, h2]
        rfl
      · have h2' : (c == 58) = false := by
          cases z : (c == 58) with
          | true => exact absurd z h2
          | false => rfl
        have e1 : stp (acc, false) c = ((if c == 46 then [] else acc ++ [c]), false) := by
          unfold stp
          rw [h1', h2']
          rfl
        rw [e1, stp_name r, ahead_cons, h1']
        show _ = List.foldl _ acc (ahead 58 (c :: ahead 10 r))
        rw [ahead_cons, h2']
        rfl
theorem stp_all (l : List Nat) : (l.foldl stp ([], false)).1 = nameOf l := stp_name l []
theorem ahead_len (c : Nat) (l : List Nat) : (ahead c l).length ≤ l.length := by
  unfold ahead
  exact (List.takeWhile_sublist _).length_le

section
variable {P : Program} {w : World} {K : PySem.W.Frag} {mg : Str → Option Value} {base : Heap}
/-! ### detail_free -/
def sp_detail_free : Sp := fun vs H Q _ => ∃ (x : Str), vs = [.str x] ∧ x.length ≤ 1000000 ∧ ∀ H', Same H H' → Q (.str ⟨(nameOf (tl x)).toArray⟩) H'
theorem ok_detail_free {f : Addr} {fd : FuncData} {dvs : List V} (F : Fn K "detail_free" s_detail_free dvs f fd) : FnOk P w K mg base CX0 1 f fd ["text"] (sp_detail_free) := by
  refine Fn.okN F sc_detail_free (fun vs H Q E h => ?_) (fun cdv A outer s H vs Q E hr h => ?_)
  · obtain ⟨_, rfl, _⟩ := h
    rfl
  · obtain ⟨x, rfl, hx, k⟩ := h
    refine ⟨_, (pss_cons (ps_set (i := 1) sc_detail_free.nd rfl (.inl rfl) (pe_ix ix_tup (pe_m1 PySem.F.slot_str_partition PySem.F.type_str_partition mt_partition (pe_ix ix_tup (pe_m1 PySem.F.slot_str_partition PySem.F.type_str_partition mt_partition (pv 0) pe_str) pe_int (fun _ _ => rfl)) pe_str) pe_int (fun _ _ => rfl)))
      (pss_one (ps_ret (pe_ix ix_tup (pe_m1 PySem.F.slot_str_rpartition PySem.F.type_str_rpartition mt_rpart (pv 1) pe_str) pe_int (fun _ _ => rfl))))), ?_⟩
    have hx0 : (tl x).length ≤ 1000000 := by rw [← len_tl]; exact hx
    have h1 : (Txt.partition x ⟨#[10]⟩).1.length ≤ 1000000 := by
      rw [len_tl, part_ahead]
      exact Nat.le_trans (ahead_len _ _) hx0
    have h2 : (Txt.partition (Txt.partition x ⟨#[10]⟩).1 ⟨#[58]⟩).1.length ≤ 1000000 := by
      rw [len_tl, part_ahead]
      refine Nat.le_trans (ahead_len _ _) ?_
      rw [← len_tl]
      exact h1
    refine ⟨.str x, rfl, ⟨_, rfl⟩, x, ⟨#[10]⟩, rfl, rfl, rfl, line_of hx, fun p np => ?_⟩
    refine ⟨p, _, 0, _, rfl, rfl, SqT.of upd_same, atI_nat (j := 0) rfl, ⟨_, rfl⟩, _, ⟨#[58]⟩, rfl, rfl, rfl, line_of h1, fun q nq => ?_⟩
    refine ⟨q, _, 0, _, rfl, rfl, SqT.of upd_same, atI_nat (j := 0) rfl, ?_⟩
    refine ⟨_, rfl, ⟨_, rfl⟩, _, ⟨#[46]⟩, rfl, rfl, rfl, line_of h2, fun r nr => ?_⟩
    refine ⟨r, _, 2, _, rfl, rfl, SqT.of upd_same, atI_nat (j := 2) rfl, ?_⟩
    have e : (Txt.rpartition (Txt.partition (Txt.partition x ⟨#[10]⟩).1 ⟨#[58]⟩).1 ⟨#[46]⟩).2.2 = ⟨(nameOf (tl x)).toArray⟩ := ext_tl (by
      rw [rpart_behind, part_ahead, part_ahead]
      rfl)
    rw [e]
    exact k _ ((same_new np).trans ((same_new nq).trans (same_new nr)))
end

/-! ### two truths alike -/
section
variable {P : Program} {w : World} {K : PySem.W.Frag} {mg : Str → Option Value} {base : Heap}
def sp_law_same : Sp := fun vs H Q _ => ∃ (a b : Bool), vs = [.bl a, .bl b] ∧ ∀ H', Same H H' → Q (.bl (a == b)) H'
theorem ok_law_same {f : Addr} {fd : FuncData} {dvs : List V} (F : Fn K "_law_same" s_law_same dvs f fd) (m_bool : mg "bool" = none) (m_int : mg "int" = none) (m_isinstance : mg "isinstance" = none) (m_list : mg "list" = none) (m_tuple : mg "tuple" = none) : FnOk P w K mg base CX0 1 f fd ["found", "due"] (sp_law_same) := by
  refine Fn.okN F sc_law_same (fun vs H Q E h => ?_) (fun cdv A outer s H vs Q E hr h => ?_)
  · obtain ⟨_, _, rfl, _⟩ := h
    rfl
  · obtain ⟨a, b, rfl, k⟩ := h
    refine ⟨_, (pss_cons (ps_if (pt_val (pe_callB call_isiT (by rfl) m_isinstance (by decide +kernel) (pa_cons (pv 1) (pa_cons (pe_tup (pa_cons (pe_bltn (v := .ty "list") (by rfl) m_list (by decide +kernel) rfl) (pa_cons (pe_bltn (v := .ty "tuple") (by rfl) m_tuple (by decide +kernel) rfl) pa_nil))) pa_nil)))) pss_never pss_nil)
      (pss_cons (ps_if (pt_val (pe_callB call_isiT (by rfl) m_isinstance (by decide +kernel) (pa_cons (pv 1) (pa_cons (pe_tup (pa_cons (pe_bltn (v := .ty "bool") (by rfl) m_bool (by decide +kernel) rfl) (pa_cons (pe_bltn (v := .ty "int") (by rfl) m_int (by decide +kernel) rfl) pa_nil))) pa_nil))))
          (pss_one (ps_ret (pe_and (pe_callB call_isi (by rfl) m_isinstance (by decide +kernel) (pa_cons (pv 0) (pa_cons (pe_bltn (v := .ty "int") (by rfl) m_int (by decide +kernel) rfl) pa_nil))) (pe_and (pe_cmpR op_eq (pe_callB call_isi (by rfl) m_isinstance (by decide +kernel) (pa_cons (pv 0) (pa_cons (pe_bltn (v := .ty "bool") (by rfl) m_bool (by decide +kernel) rfl) pa_nil))) (pe_callB call_isi (by rfl) m_isinstance (by decide +kernel) (pa_cons (pv 1) (pa_cons (pe_bltn (v := .ty "bool") (by rfl) m_bool (by decide +kernel) rfl) pa_nil))) (nomark _)) (pe_one (pe_cmpR op_eq (pv 0) (pv 1) (nomark _)))))))
          pss_nil)
      (pss_one ps_never))), ?_⟩
    refine ⟨.bl b, rfl, by show 2 ≤ sizeLine; decide, fun T nT => ?_⟩
    have sT := same_new (o := .tup [.ty "list", .ty "tuple"]) nT
    have tT : (upd H T (.tup [.ty "list", .ty "tuple"])) T = some (.tup [.ty "list", .ty "tuple"]) := upd_same
    generalize upd H T (.tup [.ty "list", .ty "tuple"]) = H1 at sT tT ⊢
    refine ⟨.bl b, T, [.ty "list", .ty "tuple"], _, _, false, rfl, tT, .cons (.ty "list") (.cons (.ty "tuple") .nil), .base (.bl b), kitAny_cons (b := false) (kit_ty (by decide +kernel)) (fun _ => kitAny_cons (b := false) (kit_ty (by decide +kernel)) (fun _ => kitAny_nil) (fun h => Bool.noConfusion h)) (fun h => Bool.noConfusion h), false, rfl, iteF ?_⟩
    refine ⟨.bl b, rfl, by show 2 ≤ sizeLine; decide, fun T2 nT2 => ?_⟩
    have sT2 := same_new (o := .tup [.ty "bool", .ty "int"]) nT2
    have tT2 : (upd H1 T2 (.tup [.ty "bool", .ty "int"])) T2 = some (.tup [.ty "bool", .ty "int"]) := upd_same
    generalize upd H1 T2 (.tup [.ty "bool", .ty "int"]) = H2 at sT2 tT2 ⊢
    refine ⟨.bl b, T2, [.ty "bool", .ty "int"], _, _, true, rfl, tT2, .cons (.ty "bool") (.cons (.ty "int") .nil), .base (.bl b), kitAny_cons (b := true) (kit_ty (by decide +kernel)) (fun h => Bool.noConfusion h) (fun _ => rfl), true, rfl, iteT ?_⟩
    refine ⟨.bl a, rfl, _, _, _, _, true, rfl, .ty "int", .base (.bl a), kit_ty (by decide +kernel), true, rfl, iteT ?_⟩
    refine ⟨.bl a, rfl, _, _, _, _, true, rfl, .ty "bool", .base (.bl a), kit_ty (by decide +kernel), .bl b, rfl, _, _, _, _, true, rfl, .ty "bool", .base (.bl b), kit_ty (by decide +kernel), rfl, _, rfl, ?_⟩
    rw [decide_eq_true rfl]
    refine iteT ⟨.bl a, rfl, .bl b, rfl, rfl, ?_⟩
    rw [dec_bl]
    exact k H2 (sT.trans sT2)
end

/-! ### errors compared -/
theorem behind_len (c : Nat) : ∀ (l acc : List Nat), (l.foldl (fun acc d => if d == c then [] else acc ++ [d]) acc).length ≤ acc.length + l.length
  | [], acc => Nat.le_refl _
  | d :: r, acc => by
    rw [List.foldl_cons]
    refine Nat.le_trans (behind_len c r _) ?_
    cases (d == c) with
    | true =>
      show 0 + r.length ≤ acc.length + (r.length + 1)
      omega
    | false =>
      show (acc ++ [d]).length + r.length ≤ acc.length + (r.length + 1)
      rw [List.length_append]
      show acc.length + 1 + r.length ≤ _
      omega
theorem nameOf_len (l : List Nat) : (nameOf l).length ≤ l.length := by
  unfold nameOf
  have h1 := ahead_len 10 l
  have h2 := ahead_len 58 (ahead 10 l)
  have h3 : (behind 46 (ahead 58 (ahead 10 l))).length ≤ 0 + (ahead 58 (ahead 10 l)).length := behind_len 46 _ []
  omega
theorem behind_mem (c : Nat) : ∀ (l acc : List Nat) (x : Nat), x ∈ l.foldl (fun acc d => if d == c then [] else acc ++ [d]) acc → x ∈ acc ∨ x ∈ l
  | [], acc, x, h => .inl h
  | d :: r, acc, x, h => by
    rw [List.foldl_cons] at h
    rcases behind_mem c r _ x h with h | h
    · cases e : (d == c) with
      | true =>
        rw [e] at h
        cases h
      | false =>
        rw [e] at h
        rcases List.mem_append.mp h with h | h
        · exact .inl h
        · rw [List.mem_singleton.mp h]
          exact .inr (List.mem_cons_self ..)
    · exact .inr (List.mem_cons_of_mem _ h)
theorem ahead_mem {c : Nat} {l : List Nat} {x : Nat} (h : x ∈ ahead c l) : x ∈ l := by
  unfold ahead at h
  exact (List.takeWhile_sublist _).subset h
theorem nameOf_mem {l : List Nat} {x : Nat} (h : x ∈ nameOf l) : x ∈ l := by
  unfold nameOf at h
  rcases behind_mem 46 _ [] x h with h | h
  · cases h
  · exact ahead_mem (ahead_mem h)
def errF (x y : List Nat) (xs : List Str) : Bool := letsF x y xs || (has "IGNORE_EXCEPTION_DETAIL" xs && letsF (nameOf x) (nameOf y) xs)
section
variable {P : Program} {w : World} {K : PySem.W.Frag} {mg : Str → Option Value} {base : Heap}
def sp_error_lets_by (K : PySem.W.Frag) : Sp := fun vs H Q _ => ∃ (x y : Str) (p : Addr) (xs : List Str), vs = [.str x, .str y, .ref p] ∧ x.length ≤ 1000000 ∧ y.length ≤ 1000000 ∧ SqA K H p (xs.map V.str) ∧ ∀ H', Same H H' → Q (.bl (errF (tl x) (tl y) xs)) H'
theorem ok_error_lets_by {f : Addr} {fd : FuncData} {dvs : List V} (F : Fn K "error_lets_by" s_error_lets_by dvs f fd) (O_lets_by : OwnT P w K mg base "lets_by" 4 ["want", "got", "flags"] [] (sp_lets_by K)) (O_detail_free : Own P w K mg base "detail_free" 1 ["text"] [] (sp_detail_free)) {t_IGNORE_DETAIL : Tok} (c_IGNORE_DETAIL : mg "IGNORE_DETAIL" = some (.str "IGNORE_EXCEPTION_DETAIL" t_IGNORE_DETAIL)) : FnT P w K mg base CX0 5 f fd ["want", "got", "flags"] (sp_error_lets_by K) := by
  refine Fn.okT F sc_error_lets_by (fun vs H Q E h => ?_) (fun cdv A outer s H vs Q E hr h => ?_)
  · obtain ⟨_, _, _, _, rfl, _⟩ := h
    rfl
  · obtain ⟨x, y, p, xs, rfl, lx, ly, hp, k⟩ := h
    refine ⟨_, (bt_cons (st_if (tt_val (et_own O_lets_by (hr.mono (by decide)) (by rfl) (AT.of (pa_cons (pv 0) (pa_cons (pv 1) (pa_cons (pv 2) pa_nil))))))
          (BT.of (pss_one (ps_ret pe_bl)))
          bt_nil)
      (bt_one (st_ret (et_and (ET.of (pe_cmpR op_in_seq (pe_glob (v := .str "IGNORE_EXCEPTION_DETAIL") rfl c_IGNORE_DETAIL ⟨_, rfl⟩) (pv 2) rfl)) (et_one (et_own O_lets_by (hr.mono (by decide)) (by rfl) (AT.of (pa_cons (pe_own O_detail_free (hr.mono (by decide)) (by rfl) (pa_cons (pv 0) pa_nil)) (pa_cons (pe_own O_detail_free (hr.mono (by decide)) (by rfl) (pa_cons (pv 1) pa_nil)) (pa_cons (pv 2) pa_nil)))))))))), ?_⟩
    refine ⟨.str x, rfl, .str y, rfl, .ref p, rfl, x, y, p, xs, rfl, lx, ly, hp, fun H1 s1 => ⟨_, rfl, ?_⟩⟩
    have k0 : ∀ (H' : Hp) (b : Bool), Same H H' → errF (tl x) (tl y) xs = b → Q (.bl b) H' := fun H' b s e => by rw [← e]; exact k H' s
    unfold errF at k0
    cases h1 : letsF (tl x) (tl y) xs with
    | true => exact iteT (k0 H1 true s1 (by rw [h1]; rfl))
    | false =>
      rw [h1] at k0
      refine iteF ⟨.ref p, rfl, p, _, rfl, seqA_of s1 hp, rfl, flat_strs xs, _, rfl, ?_⟩
      rw [inV_str]
      cases h2 : has "IGNORE_EXCEPTION_DETAIL" xs with
      | false => exact iteF (k0 H1 false s1 (by rw [h2]; rfl))
      | true =>
        rw [h2] at k0
        have l1 : (⟨(nameOf (tl x)).toArray⟩ : Str).length ≤ 1000000 := by
          rw [len_arr]
          have := nameOf_len (tl x)
          rw [← len_tl] at this
          omega
        have l2 : (⟨(nameOf (tl y)).toArray⟩ : Str).length ≤ 1000000 := by
          rw [len_arr]
          have := nameOf_len (tl y)
          rw [← len_tl] at this
          omega
        refine iteT ⟨.str x, rfl, x, rfl, lx, fun H2 s2 => ⟨.str y, rfl, y, rfl, ly, fun H3 s3 => ⟨.ref p, rfl, _, _, p, xs, rfl, l1, l2, seqA_of (s1.trans (s2.trans s3)) hp, fun H4 s4 => ?_⟩⟩⟩
        exact k0 H4 _ (s1.trans (s2.trans (s3.trans s4))) rfl
def sp_check_error (K : PySem.W.Frag) : Sp := fun vs H Q _ => ∃ (x y : Str) (p : Addr) (xs : List Str), vs = [.str x, .str y, .ref p] ∧ x.length ≤ 1000000 ∧ y.length ≤ 1000000 ∧ SqA K H p (xs.map V.str) ∧ (∀ z ∈ xs, has z v_FLAGS = true) ∧ ∀ H', Same H H' → Q (.bl (errF (tl x) (tl y) xs)) H'
theorem ok_check_error {f : Addr} {fd : FuncData} {dvs : List V} (F : Fn K "check_error" s_check_error dvs f fd) (O_require_flags : Own P w K mg base "require_flags" 2 ["flags"] [] (sp_require_flags K)) (O_error_lets_by : OwnT P w K mg base "error_lets_by" 5 ["want", "got", "flags"] [] (sp_error_lets_by K)) : FnT P w K mg base CX0 6 f fd ["want", "got", "flags"] (sp_check_error K) := by
  refine Fn.okT F sc_check_error (fun vs H Q E h => ?_) (fun cdv A outer s H vs Q E hr h => ?_)
  · obtain ⟨_, _, _, _, rfl, _⟩ := h
    rfl
  · obtain ⟨x, y, p, xs, rfl, lx, ly, hp, hf, k⟩ := h
    refine ⟨_, (bt_cons (ST.of (ps_expr (pe_own O_require_flags (hr.mono (by decide)) (by rfl) (pa_cons (pv 2) pa_nil))))
      (bt_one (st_ret (et_own O_error_lets_by (hr.mono (by decide)) (by rfl) (AT.of (pa_cons (pv 0) (pa_cons (pv 1) (pa_cons (pv 2) pa_nil)))))))), ?_⟩
    exact ⟨.ref p, rfl, p, xs, rfl, hp, hf, .str x, rfl, .str y, rfl, .ref p, rfl, x, y, p, xs, rfl, lx, ly, hp, k⟩
end
/-! ### the law's own bare name -/
theorem spl_head (c : Nat) : ∀ (l acc : List Nat), (spl [c] 0 acc l)[0]? = some (acc ++ ahead c l)
  | [], acc => by
    show some acc = some (acc ++ [])
    rw [List.append_nil]
  | d :: r, acc => by
    unfold spl
    rw [ahead_cons]
    have e : pre [c] (d :: r) = (d == c) := by
      show ([d] == [c]) = _
      rw [Bool.eq_iff_iff]
      simp
    rw [e]
    cases (d == c) with
    | true =>
      show some acc = some (acc ++ [])
      rw [List.append_nil]
    | false =>
      show (spl [c] 0 (acc ++ [d]) r)[0]? = some (acc ++ d :: ahead c r)
      rw [spl_head c r, List.append_assoc]
      rfl
theorem spl_last (c : Nat) : ∀ (l acc : List Nat), ∃ j, (spl [c] 0 acc l).length = j + 1 ∧ (spl [c] 0 acc l)[j]? = some (l.foldl (fun acc d => if d == c then [] else acc ++ [d]) acc)
  | [], acc => ⟨0, rfl, rfl⟩
  | d :: r, acc => by
    unfold spl
    have e : pre [c] (d :: r) = (d == c) := by
      show ([d] == [c]) = _
      rw [Bool.eq_iff_iff]
      simp
    rw [e, List.foldl_cons]
    cases (d == c) with
    | true =>
      obtain ⟨j, h1, h2⟩ := spl_last c r []
      refine ⟨j + 1, ?_, ?_⟩
      · show (spl [c] 0 [] r).length + 1 = j + 1 + 1
        rw [h1]
      · show (spl [c] 0 [] r)[j]? = _
        rw [h2]
        rfl
    | false =>
      obtain ⟨j, h1, h2⟩ := spl_last c r (acc ++ [d])
      exact ⟨j, h1, h2⟩
theorem split_head (x : Str) {c : Nat} (hc : c < 256) : ∃ s : Str, (Txt.split x ⟨[c].toArray⟩)[0]? = some s ∧ tl s = ahead c (tl x) := by
  have e := splitOf x (y := [c]) (by simp) (by simpa using hc)
  have h := spl_head c (tl x) []
  rw [← e, List.getElem?_map] at h
  cases hs : (Txt.split x ⟨[c].toArray⟩)[0]? with
  | none =>
    rw [hs] at h
    cases h
  | some s =>
    rw [hs] at h
    exact ⟨s, rfl, Option.some.inj h⟩
theorem split_last (x : Str) {c : Nat} (hc : c < 256) : ∃ s : Str, atI ((Txt.split x ⟨[c].toArray⟩).map V.str) (-1) = some (.str s) ∧ tl s = behind c (tl x) := by
  have e := splitOf x (y := [c]) (by simp) (by simpa using hc)
  obtain ⟨j, h1, h⟩ := spl_last c (tl x) []
  rw [← e, List.length_map] at h1
  rw [← e, List.getElem?_map] at h
  cases hs : (Txt.split x ⟨[c].toArray⟩)[j]? with
  | none =>
    rw [hs] at h
    cases h
  | some s =>
    rw [hs] at h
    refine ⟨s, ?_, Option.some.inj h⟩
    unfold atI ixN
    rw [if_neg (by decide), if_pos (by rw [List.length_map]; omega)]
    show ((Txt.split x ⟨[c].toArray⟩).map V.str)[(-1 + (((Txt.split x ⟨[c].toArray⟩).map V.str).length : Int)).toNat]? = _
    rw [List.length_map, h1, show (-1 + ((j + 1 : Nat) : Int)).toNat = j by omega, List.getElem?_map, hs]
    rfl
theorem col_eq : (":" : Str) = ⟨[58].toArray⟩ := ext_tl (by decide +kernel)
theorem dotc_eq : ("." : Str) = ⟨[46].toArray⟩ := ext_tl (by decide +kernel)
section
variable {P : Program} {w : World} {K : PySem.W.Frag} {mg : Str → Option Value} {base : Heap}
def sp_law_bare_name : Sp := fun vs H Q _ => ∃ (x : Str), vs = [.str x] ∧ x.length ≤ 1000000 ∧ ∀ (H' : Hp) (s : Str), Same H H' → tl s = nameOf (tl x) → Q (.str s) H'
theorem ok_law_bare_name {f : Addr} {fd : FuncData} {dvs : List V} (F : Fn K "_law_bare_name" s_law_bare_name dvs f fd) : FnOk P w K mg base CX0 1 f fd ["text"] (sp_law_bare_name) := by
  refine Fn.okN F sc_law_bare_name (fun vs H Q E h => ?_) (fun cdv A outer s H vs Q E hr h => ?_)
  · obtain ⟨_, rfl, _⟩ := h
    rfl
  · obtain ⟨x, rfl, hx, k⟩ := h
    refine ⟨_, (pss_one (ps_ret (pe_ix ix_list (pe_m1 PySem.F.slot_str_split PySem.F.type_str_split mt_split (pe_ix ix_list (pe_m1 PySem.F.slot_str_split PySem.F.type_str_split mt_split (pe_ix ix_list (pe_m1 PySem.F.slot_str_split PySem.F.type_str_split mt_split (pv 0) pe_str) pe_int (fun _ _ => rfl)) pe_str) pe_int (fun _ _ => rfl)) pe_str) (pe_un un_neg pe_int) (fun _ _ => rfl)))), ?_⟩
    obtain ⟨s0, g0, t0⟩ := split_head x (c := 10) (by decide)
    obtain ⟨s1, g1, t1⟩ := split_head s0 (c := 58) (by decide)
    obtain ⟨s2, g2, t2⟩ := split_last s1 (c := 46) (by decide)
    have l0 : s0.length ≤ 1000000 := by
      have := ahead_len 10 (tl x)
      rw [← t0, ← len_tl, ← len_tl] at this
      omega
    have l1 : s1.length ≤ 1000000 := by
      have := ahead_len 58 (tl s0)
      rw [← t1, ← len_tl, ← len_tl] at this
      omega
    refine ⟨.str x, rfl, ⟨_, rfl⟩, x, "\n", rfl, rfl, by decide +kernel, by rw [sizeLine_eq]; omega, fun p np => ?_⟩
    rw [nl_eq]
    refine ⟨p, _, 0, .str s0, rfl, rfl, SqL.of upd_same, atI_nat (j := 0) (by rw [List.getElem?_map, g0]; rfl), ⟨_, rfl⟩, s0, ":", rfl, rfl, by decide +kernel, by rw [sizeLine_eq]; omega, fun p1 np1 => ?_⟩
    rw [col_eq]
    refine ⟨p1, _, 0, .str s1, rfl, rfl, SqL.of upd_same, atI_nat (j := 0) (by rw [List.getElem?_map, g1]; rfl), ⟨_, rfl⟩, s1, ".", rfl, rfl, by decide +kernel, by rw [sizeLine_eq]; omega, fun p2 np2 => ?_⟩
    rw [dotc_eq]
    refine ⟨_, rfl, p2, _, -1, .str s2, rfl, rfl, SqL.of upd_same, g2, ?_⟩
    refine k _ s2 ((same_new np).trans ((same_new np1).trans (same_new np2))) ?_
    rw [t2, t1, t0]
    rfl
end
/-! ### an error's text -/
def EL1 : List Str := ["Bad", "Bad", "Odd", "B...", "...", "Bad ", ""]
def EL2 : List Str := ["", "", "m.", "m.n.", "o."]
def EL3 : List Str := ["\n", ": a\n", ": a  b\n", ": ...\n", ": a\n\nb\n", ": <BLANKLINE>\n", ": b: a.b\n", ":\n"]
theorem el1_all : EL1.all (fun x => (tl x).all (· < 128) && decide (x.length ≤ 20)) = true := by decide +kernel
theorem el2_all : EL2.all (fun x => (tl x).all (· < 128) && decide (x.length ≤ 20)) = true := by decide +kernel
theorem el3_all : EL3.all (fun x => (tl x).all (· < 128) && decide (x.length ≤ 20)) = true := by decide +kernel
section
variable {P : Program} {w : World} {K : PySem.W.Frag} {mg : Str → Option Value} {base : Heap}
def sp_law_error : Sp := fun vs H Q _ => ∃ (D A B : Addr) (n : Int), vs = [.ref D] ∧ Drw H D A B n ∧ n < 900000 ∧ ∀ (H' : Hp) (x : Str) (n' : Int), Drw H' D A B n' → n' ≤ n + 3 → Kept D A H H' → okS x → x.length ≤ 60 → Q (.str x) H'
theorem ok_law_error {f : Addr} {fd : FuncData} {dvs : List V} (F : Fn K "_law_error" s_law_error dvs f fd) (O_law_pick : Own P w K mg base "_law_pick" 3 ["draws", "some"] [] (sp_law_pick)) : FnOk P w K mg base CX0 4 f fd ["draws"] (sp_law_error) := by
  refine Fn.okN F sc_law_error (fun vs H Q E h => ?_) (fun cdv A outer s H vs Q E hr h => ?_)
  · obtain ⟨_, _, _, _, rfl, _⟩ := h
    rfl
  · obtain ⟨D, A1, B, n, rfl, dr, hn, k⟩ := h
    refine ⟨_, (pss_cons (ps_set (i := 1) sc_law_error.nd rfl (.inl rfl) (pe_own O_law_pick (hr.mono (by decide)) (by rfl) (pa_cons (pv 0) (pa_cons (pe_lst (pa_cons pe_str (pa_cons pe_str (pa_cons pe_str (pa_cons pe_str (pa_cons pe_str (pa_cons pe_str (pa_cons pe_str pa_nil)))))))) pa_nil))))
      (pss_cons (ps_set (i := 2) sc_law_error.nd rfl (.inl rfl) (pe_op op_add_str (pe_own O_law_pick (hr.mono (by decide)) (by rfl) (pa_cons (pv 0) (pa_cons (pe_lst (pa_cons pe_str (pa_cons pe_str (pa_cons pe_str (pa_cons pe_str (pa_cons pe_str pa_nil)))))) pa_nil))) (pv 1)))
      (pss_cons (ps_set (i := 3) sc_law_error.nd rfl (.inl rfl) (pe_lst (pa_cons pe_str (pa_cons pe_str (pa_cons pe_str (pa_cons pe_str (pa_cons pe_str (pa_cons pe_str (pa_cons pe_str (pa_cons pe_str pa_nil))))))))))
      (pss_one (ps_ret (pe_op op_add_str (pv 2) (pe_own O_law_pick (hr.mono (by decide)) (by rfl) (pa_cons (pv 0) (pa_cons (pv 3) pa_nil))))))))), ?_⟩
    refine ⟨.ref D, rfl, by show 7 ≤ sizeLine; decide, fun M nM => ?_⟩
    have s1 := same_new (o := .lst (EL1.map V.str)) nM
    have d1 := dr.same s1
    have eM : (upd H M (.lst (EL1.map V.str))) M = some (.lst (EL1.map V.str)) := upd_same
    have MD := fresh_ne dr nM
    have k1 : Kept D A1 H (upd H M (.lst (EL1.map V.str))) := Kept.of s1
    show _
    generalize hH : upd H M (.lst (EL1.map V.str)) = H1 at d1 eM k1
    rw [show upd H M (.lst [V.str "Bad", .str "Bad", .str "Odd", .str "B...", .str "...", .str "Bad ", .str ""]) = H1 from hH]
    refine ⟨D, A1, B, M, n, _, rfl, d1, by omega, .inl eM, MD.1, MD.2, by decide, by decide, fun j v H2 hv d2 k2 => ?_⟩
    obtain ⟨x1, rfl, hx1⟩ := str_at hv
    have g1 := menu_of el1_all (List.mem_of_getElem? hx1)
    refine ⟨.ref D, rfl, by show 5 ≤ sizeLine; decide, fun M2 nM2 => ?_⟩
    have s3 := same_new (o := .lst (EL2.map V.str)) nM2
    have d3 := d2.same s3
    have eM2 : (upd H2 M2 (.lst (EL2.map V.str))) M2 = some (.lst (EL2.map V.str)) := upd_same
    have MD2 := fresh_ne d2 nM2
    have k3 : Kept D A1 H2 (upd H2 M2 (.lst (EL2.map V.str))) := Kept.of s3
    show _
    generalize hH3 : upd H2 M2 (.lst (EL2.map V.str)) = H3 at d3 eM2 k3
    rw [show upd H2 M2 (.lst [V.str "", .str "", .str "m.", .str "m.n.", .str "o."]) = H3 from hH3]
    refine ⟨D, A1, B, M2, n + 1, _, rfl, d3, by omega, .inl eM2, MD2.1, MD2.2, by decide, by decide, fun j v H4 hv d4 k4 => ?_⟩
    obtain ⟨x2, rfl, hx2⟩ := str_at hv
    have g2 := menu_of el2_all (List.mem_of_getElem? hx2)
    have la := len_app x2 x1
    refine ⟨.str x1, rfl, x2, x1, rfl, rfl, by rw [sizeLine_eq]; omega, by show 8 ≤ sizeLine; decide, fun M3 nM3 => ?_⟩
    have s5 := same_new (o := .lst (EL3.map V.str)) nM3
    have d5 := d4.same s5
    have eM3 : (upd H4 M3 (.lst (EL3.map V.str))) M3 = some (.lst (EL3.map V.str)) := upd_same
    have MD3 := fresh_ne d4 nM3
    have k5 : Kept D A1 H4 (upd H4 M3 (.lst (EL3.map V.str))) := Kept.of s5
    show _
    generalize hH5 : upd H4 M3 (.lst (EL3.map V.str)) = H5 at d5 eM3 k5
    rw [show upd H4 M3 (.lst [V.str "\n", .str ": a\n", .str ": a  b\n", .str ": ...\n", .str ": a\n\nb\n", .str ": <BLANKLINE>\n", .str ": b: a.b\n", .str ":\n"]) = H5 from hH5]
    refine ⟨_, rfl, .ref D, rfl, .ref M3, rfl, D, A1, B, M3, n + 1 + 1, _, rfl, d5, by omega, .inl eM3, MD3.1, MD3.2, by decide, by decide, fun j v H6 hv d6 k6 => ?_⟩
    obtain ⟨x3, rfl, hx3⟩ := str_at hv
    have g3 := menu_of el3_all (List.mem_of_getElem? hx3)
    have lb := len_app (x2 ++ x1) x3
    refine ⟨_, _, rfl, rfl, by rw [sizeLine_eq]; omega, ?_⟩
    exact k H6 _ _ d6 (by omega) (fun b o e n1 n2 => k6 _ _ (k5 _ _ (k4 _ _ (k3 _ _ (k2 _ _ (k1 b o e n1 n2) n1 n2) n1 n2) n1 n2) n1 n2) n1 n2) (okS_app (okS_app g2.1 g1.1) g3.1) (by omega)
end

/-! ### the law -/
theorem rules_ok : RULES.all (fun x => (tl x).all (· < 128) && has x v_FLAGS && !(x == "IGNORE_EXCEPTION_DETAIL")) = true := by decide +kernel
theorem ign_ok : okS "IGNORE_EXCEPTION_DETAIL" ∧ has "IGNORE_EXCEPTION_DETAIL" v_FLAGS = true := ⟨ok_ascii (by decide +kernel), by decide +kernel⟩
theorem ign_all : ∀ z ∈ (["IGNORE_EXCEPTION_DETAIL"] : List Str), has z v_FLAGS = true := by decide +kernel
theorem ign_ne : RULES.all (fun x => !(("IGNORE_EXCEPTION_DETAIL" : Str) == x)) = true := by decide +kernel
theorem letsF_has {w g : List Nat} {xs rs : List Str} (h : ∀ x ∈ RULES, (x ∈ xs ↔ x ∈ rs)) : letsF w g xs = letsF w g rs := by
  have e : ∀ x ∈ RULES, has x xs = has x rs := fun x hx => by
    rw [Bool.eq_iff_iff, has_iff, has_iff]
    exact h x hx
  unfold letsF
  rw [e _ (by simp [RULES]), e _ (by simp [RULES]), e _ (by simp [RULES]), e _ (by simp [RULES])]
theorem replL_mem (c : Nat) (z : List Nat) : ∀ (l : List Nat) (x : Nat), x ∈ StrLaws.replL [c] z l → x ∈ z ∨ x ∈ l
  | [], x, h => by
    rw [StrLaws.replL_nil] at h
    exact .inr h
  | e :: r, x, h => by
    have ih := replL_mem c z r
    by_cases q : e = c
    · subst q
      rw [StrLaws.replL_hit (by simp) rfl] at h
      rcases List.mem_append.mp h with h | h
      · exact .inl h
      · rcases ih x h with h | h
        · exact .inl h
        · exact .inr (List.mem_cons_of_mem _ h)
    · rw [StrLaws.replL_miss (by simpa using q)] at h
      rcases List.mem_cons.mp h with h | h
      · exact .inr (by rw [h]; exact List.mem_cons_self ..)
      · rcases ih x h with h | h
        · exact .inl h
        · exact .inr (List.mem_cons_of_mem _ h)
theorem two_sp : ("  " : Str).length = 2 := by decide +kernel
theorem okS_two : okS "  " := ok_ascii (by decide +kernel)
theorem okS_repl {x : Str} (h : okS x) : okS (Txt.replace x " " "  ") := by
  have e := StrLaws.replace_list (x := x) (y := ⟨[32].toArray⟩) (z := "  ") (Nat.le_refl _)
  have h2 := okS_two
  rw [okS_iff] at h h2 ⊢
  intro c hc
  rw [sp_eq] at hc
  have hc' : c ∈ StrLaws.replL [32] (tl "  ") (tl x) := by
    rw [show StrLaws.replL [32] (tl "  ") (tl x) = (Txt.replace x ⟨[32].toArray⟩ "  ").cps.toList from e.symm]
    exact hc
  rcases replL_mem 32 _ _ c hc' with h1 | h1
  · exact h2 c h1
  · exact h c h1
theorem end1 : errF (tl "m.Bad: a\n") (tl "Bad: b\n") ["IGNORE_EXCEPTION_DETAIL"] = true := by decide +kernel
theorem end2 : errF (tl "A\n") (tl "A\n") [] = true := by decide +kernel
section
variable {P : Program} {w : World} {K : PySem.W.Frag} {mg : Str → Option Value} {base : Heap}
def sp_law (K : PySem.W.Frag) : Sp := fun vs H Q _ => ∃ (a : Addr) (ns : List Int), vs = [.ref a] ∧ SqL K H a (ns.map V.int) ∧ ns.length ≤ 63 ∧ ∀ H', Q (.bl true) H'
theorem ok_law {f : Addr} {fd : FuncData} {dvs : List V} (F : Fn K "law" s_law dvs f fd) (O_law_draws : OwnK P w K mg base "_law_draws" 1 ["script"] [] (sp_law_draws K)) (O_law_error : Own P w K mg base "_law_error" 4 ["draws"] [] (sp_law_error)) (O_law_rules : Own P w K mg base "_law_rules" 3 ["draws"] [] (sp_law_rules)) (O_law_take : Own P w K mg base "_law_take" 2 ["draws", "size"] [] (sp_law_take)) (O_law_lets : Own P w K mg base "_law_lets" 2 ["want", "got", "rules"] [] (sp_law_lets K)) (O_law_bare_name : Own P w K mg base "_law_bare_name" 1 ["text"] [] (sp_law_bare_name)) (O_law_handed : Own P w K mg base "_law_handed" 3 ["draws", "rules"] [] (sp_law_handed)) (O_law_same : Own P w K mg base "_law_same" 1 ["found", "due"] [] (sp_law_same)) (O_check_error : OwnT P w K mg base "check_error" 6 ["want", "got", "flags"] [] (sp_check_error K)) {E_check_error0 : Addr} (Q_E_check_error0 : ∀ H, SqT K H E_check_error0 []) (O_check_error_d2 : OwnT P w K mg base "check_error" 6 ["want", "got", "flags"] [.ref E_check_error0] (sp_check_error K)) (m_range : mg "range" = none) : FnOk P w K mg base CX0 7 f fd ["script"] (sp_law K) := by
  refine Fn.okN F sc_law (fun vs H Q E h => ?_) (fun cdv A outer s H vs Q E hr h => ?_)
  · obtain ⟨_, _, rfl, _⟩ := h
    rfl
  · obtain ⟨a, ns, rfl, hS, hlen, k⟩ := h
    refine ⟨_, (pssk_cons (sk_set (i := 1) sc_law.nd rfl (.inl rfl) (ek_own O_law_draws (hr.mono (by decide)) (by rfl) (pa_cons (pv 0) pa_nil)))
      (bt_cons (st_for PassesOwn.never rfl (pi_range1 rfl m_range (pa_cons pe_int pa_nil)) (pg_name (i := 2) sc_law.nd rfl (.inl rfl))
            (bt_cons (ST.of (ps_par (i := 3) (j := 4) (by rfl) sc_law.nd rfl rfl (by decide) rfl rfl (pa_cons (pe_own O_law_error (hr.mono (by decide)) (by rfl) (pa_cons (pv 1) pa_nil)) (pa_cons (pe_own O_law_error (hr.mono (by decide)) (by rfl) (pa_cons (pv 1) pa_nil)) pa_nil)) (by rfl)))
              (bt_cons (ST.of (ps_set (i := 5) sc_law.nd rfl (.inl rfl) (pe_own O_law_rules (hr.mono (by decide)) (by rfl) (pa_cons (pv 1) pa_nil))))
              (bt_cut (st_set (i := 4) sc_law.nd rfl (.inl rfl) (et_ifExp (TT'.of (pt_cmpR op_eq (pe_own O_law_take (hr.mono (by decide)) (by rfl) (pa_cons (pv 1) (pa_cons pe_int pa_nil))) pe_int (nomark _))) (et_repl (ET.of (pv 3)) (by decide +kernel)) (ET.of (pv 4))))
              (bt_one (st_for PassesOwn.never rfl (pi_tup (pe_tup (pa_cons pe_int (pa_cons pe_int pa_nil)))) (pg_name (i := 6) sc_law.nd rfl (.inl rfl))
                  (bt_cons (ST.of (ps_set (i := 7) sc_law.nd rfl (.inl rfl) (pe_own O_law_lets (hr.mono (by decide)) (by rfl) (pa_cons (pv 3) (pa_cons (pv 4) (pa_cons (pv 5) pa_nil))))))
                    (bt_cut (ST.of (ps_if (PW.pt (pw_and (pt_cmpR op_eq (pv 6) pe_int (nomark _)) (pw_and1 (pt_not (pt_val (pv 7))))))
                        (pss_one (ps_set (i := 7) sc_law.nd rfl (.inl rfl) (pe_own O_law_lets (hr.mono (by decide)) (by rfl) (pa_cons (pe_own O_law_bare_name (hr.mono (by decide)) (by rfl) (pa_cons (pv 3) pa_nil)) (pa_cons (pe_own O_law_bare_name (hr.mono (by decide)) (by rfl) (pa_cons (pv 4) pa_nil)) (pa_cons (pv 5) pa_nil))))))
                        pss_nil))
                    (bt_cons (ST.of (ps_set (i := 8) sc_law.nd rfl (.inl rfl) (pe_own O_law_handed (hr.mono (by decide)) (by rfl) (pa_cons (pv 1) (pa_cons (pe_op op_cat (pv 5) (pe_op op_rep (pe_lst (pa_cons pe_str pa_nil)) (pv 6))) pa_nil)))))
                    (bt_one (st_if (tt_not (tt_val (et_ownP O_law_same (hr.mono (by decide)) (by rfl) (at_cons (et_own O_check_error (hr.mono (by decide)) (by rfl) (AT.of (pa_cons (pv 3) (pa_cons (pv 4) (pa_cons (pv 8) pa_nil))))) (at_cons (ET.of (pv 7)) at_nil)))))
                        (BT.of (pss_one (ps_ret pe_bl)))
                        bt_nil)))))))))))
        (bt_cons (ST.of (ps_set (i := 5) sc_law.nd rfl (.inl rfl) (pe_lst (pa_cons pe_str pa_nil))))
        (bt_one (st_ret (et_and (et_cmpR op_is_bl (et_own O_check_error (hr.mono (by decide)) (by rfl) (AT.of (pa_cons pe_str (pa_cons pe_str (pa_cons (pv 5) pa_nil))))) (ET.of pe_bl) (nomark _)) (et_one (et_cmpR op_is_bl (et_own O_check_error_d2 (hr.mono (by decide)) (by rfl) (AT.of (pa_cons pe_str (pa_cons pe_str pa_nil)))) (ET.of pe_bl) (nomark _))))))))), ?_⟩
    refine ⟨.ref a, rfl, a, ns, rfl, hS, hlen, fun H1 D A1 B s1 dr nD nA => ?_⟩
    refine ⟨16, rfl, by decide, by decide, for_range (n := 16) (fun i σ H5 => ∃ (n : Int) (v2 v3 v4 v5 v6 v7 v8 : Option V), σ = [some (.ref a), some (.ref D), v2, v3, v4, v5, v6, v7, v8] ∧ Drw H5 D A1 B n ∧ n ≤ 100 * i) ⟨0, _, _, _, _, _, _, _, rfl, dr, by omega⟩ ?_ ?_⟩
    · rintro i σ H5 hi ⟨n, v2, v3, v4, v5, v6, v7, v8, rfl, d5, hn⟩
      refine ⟨.ref D, rfl, D, A1, B, n, rfl, d5, by omega, fun H6 w n6 d6 hn6 k6 ow lw => ?_⟩
      refine ⟨.ref D, rfl, D, A1, B, n6, rfl, d6, by omega, fun H7 g n7 d7 hn7 k7 og lg => ?_⟩
      refine ⟨_, _, rfl, ?_⟩
      -- rules
      refine ⟨.ref D, rfl, D, A1, B, n7, rfl, d7, by omega, fun H8 R rs n8 d8 hn8 k8 nR eR hrs lrs => ?_⟩
      have RD := fresh_ne d7 nR
      -- got
      refine ⟨fun σ' H' => ∃ g' : Str, σ' = [some (.ref a), some (.ref D), some (.int (0 + (i : Int))), some (.str w), some (.str g'), some (.ref R), v6, v7, v8] ∧ Drw H' D A1 B (n8 + 1) ∧ H' R = some (.lst (rs.map V.str)) ∧ okS g' ∧ g'.length ≤ 9000, ?_, ?_⟩
      · refine ⟨.ref D, rfl, D, A1, B, n8, 4, rfl, d8, by omega, by decide, by decide, fun r H9 r0 r1 d9 k9 => ⟨rfl, _, rfl, ite2 (fun _ => ?_) (fun _ => ?_)⟩⟩
        · have lr := TK.replace_len w " " "  "
          rw [two_sp] at lr
          exact ⟨.str w, rfl, w, rfl, by rw [two_sp]; omega, _, rfl, d9, k9 _ _ eR RD.1 RD.2, okS_repl ow, by omega⟩
        · exact ⟨.str g, rfl, g, rfl, d9, k9 _ _ eR RD.1 RD.2, og, by omega⟩
      rintro σ' H9 ⟨g', rfl, d9, eR9, og', lg'⟩
      clear og lg
      -- with the flag, without it
      refine ⟨by show 2 ≤ sizeLine; decide, fun T nT => ?_⟩
      have sT := same_new (o := .tup [.int 0, .int 1]) nT
      have tT : (upd H9 T (.tup [.int 0, .int 1])) T = some (.tup [.int 0, .int 1]) := upd_same
      have TD := fresh_ne d9 nT
      have dT := d9.same sT
      have eRT := sT _ _ eR9
      generalize upd H9 T (.tup [.int 0, .int 1]) = H10 at sT tT dT eRT ⊢
      refine ⟨T, rfl, ⟨_, SqT.of tT⟩, for_tup (K := K) (a := T) (xs := [V.int 0, .int 1]) (fun i' σ H11 => ∃ (m : Int) (v6 v7 v8 : Option V), σ = [some (.ref a), some (.ref D), some (.int (0 + (i : Int))), some (.str w), some (.str g'), some (.ref R), v6, v7, v8] ∧ Drw H11 D A1 B m ∧ m ≤ n8 + 1 + 10 * i' ∧ Kept D A1 H10 H11) ⟨_, _, _, _, rfl, dT, by omega, Kept.refl⟩ (fun i' σ H11 _ h => by obtain ⟨_, _, _, _, _, _, _, kp⟩ := h; exact SqT.of (kp _ _ tT TD.1 TD.2)) ?_ ?_⟩
      · rintro i' x σ H11 hx ⟨m, v6, v7, v8, rfl, d11, hm, k11⟩
        have hi' : i' < 2 := (List.getElem?_eq_some_iff.mp hx).1
        have hfr : ∃ fr : Int, x = .int fr ∧ (fr = 0 ∨ fr = 1) := by
          have := List.mem_of_getElem? hx
          simp only [List.mem_cons, List.not_mem_nil, or_false] at this
          rcases this with rfl | rfl
          · exact ⟨0, rfl, .inl rfl⟩
          · exact ⟨1, rfl, .inr rfl⟩
        obtain ⟨fr, rfl, hfr⟩ := hfr
        have eR11 := k11 _ _ eRT RD.1 RD.2
        -- due
        refine ⟨.str w, rfl, .str g', rfl, .ref R, rfl, w, g', R, rs, rfl, by omega, by omega, ow, og', .inl (SqL.of eR11), fun H12 s12 => ?_⟩
        have eR12 := s12 _ _ eR11
        refine ⟨fun σ' H' => ∃ du : Bool, σ' = [some (.ref a), some (.ref D), some (.int (0 + (i : Int))), some (.str w), some (.str g'), some (.ref R), some (.int fr), some (.bl du), v8] ∧ Same H12 H' ∧ du = (letsF (tl w) (tl g') rs || (fr == 1 && letsF (nameOf (tl w)) (nameOf (tl g')) rs)), ?_, ?_⟩
        · refine ⟨.int fr, rfl, rfl, _, rfl, ?_⟩
          rcases hfr with rfl | rfl
          · rw [decide_eq_false (by decide)]
            exact iteF (iteF ⟨_, rfl, fun _ _ e => e, by cases letsF (tl w) (tl g') rs <;> rfl⟩)
          · rw [decide_eq_true rfl]
            refine iteT ⟨.bl _, rfl, _, rfl, ?_⟩
            cases hl : letsF (tl w) (tl g') rs with
            | true => exact iteF ⟨_, rfl, fun _ _ e => e, rfl⟩
            | false =>
              refine iteT ⟨.str w, rfl, w, rfl, by omega, fun H13 s s13 es => ⟨.str g', rfl, g', rfl, by omega, fun H14 t s14 et => ?_⟩⟩
              have l1 : s.length ≤ 1000000 := by
                have := nameOf_len (tl w)
                rw [← es, ← len_tl, ← len_tl] at this
                omega
              have l2 : t.length ≤ 1000000 := by
                have := nameOf_len (tl g')
                rw [← et, ← len_tl, ← len_tl] at this
                omega
              have o1 : okS s := by
                rw [okS_iff] at ow ⊢
                intro c hc
                rw [es] at hc
                exact ow c (nameOf_mem hc)
              have o2 : okS t := by
                rw [okS_iff] at og' ⊢
                intro c hc
                rw [et] at hc
                exact og' c (nameOf_mem hc)
              refine ⟨.ref R, rfl, s, t, R, rs, rfl, l1, l2, o1, o2, .inl (SqL.of (s14 _ _ (s13 _ _ eR12))), fun H15 s15 => ⟨_, rfl, s13.trans (s14.trans s15), ?_⟩⟩
              rw [es, et]
              rfl
        rintro σ' H13 ⟨du, rfl, s13, hdu⟩
        have eR13 := s13 _ _ eR12
        have d13 := (d11.same s12).same s13
        have k13 : Kept D A1 H10 H13 := fun b o e n1 n2 => s13 _ _ (s12 _ _ (k11 b o e n1 n2))
        -- flags
        refine ⟨.ref D, rfl, .ref R, rfl, by show 1 ≤ sizeLine; decide, fun L nL => ?_⟩
        have sL := same_new (o := .lst [.str "IGNORE_EXCEPTION_DETAIL"]) nL
        have eL : (upd H13 L (.lst [.str "IGNORE_EXCEPTION_DETAIL"])) L = some (.lst [.str "IGNORE_EXCEPTION_DETAIL"]) := upd_same
        have d14 := d13.same sL
        have eR14 := sL _ _ eR13
        have k14 : Kept D A1 H10 (upd H13 L (.lst [.str "IGNORE_EXCEPTION_DETAIL"])) := fun b o e n1 n2 => sL _ _ (k13 b o e n1 n2)
        generalize upd H13 L (.lst [.str "IGNORE_EXCEPTION_DETAIL"]) = H14 at eL d14 eR14 k14 ⊢
        obtain ⟨ig, hig, hmem, hign, hlen⟩ : ∃ ig : List Str, (List.replicate fr.toNat [V.str "IGNORE_EXCEPTION_DETAIL"]).flatten = ig.map V.str ∧ (∀ x ∈ ig, x = "IGNORE_EXCEPTION_DETAIL") ∧ has "IGNORE_EXCEPTION_DETAIL" ig = (fr == 1) ∧ ig.length ≤ 1 := by
          rcases hfr with rfl | rfl
          · exact ⟨[], rfl, (by intro x h; cases h), by decide +kernel, Nat.zero_le _⟩
          · exact ⟨["IGNORE_EXCEPTION_DETAIL"], rfl, (by intro x h; exact List.mem_singleton.mp h), by decide +kernel, Nat.le_refl _⟩
        refine ⟨.int fr, rfl, L, fr, _, rfl, rfl, eL, by omega, by omega, by show 1 * fr.toNat ≤ _; rw [sizeLine_eq]; omega, fun L2 nL2 => ?_⟩
        rw [hig]
        have sL2 := same_new (o := .lst (ig.map V.str)) nL2
        have eL2 : (upd H14 L2 (.lst (ig.map V.str))) L2 = some (.lst (ig.map V.str)) := upd_same
        have d15 := d14.same sL2
        have eR15 := sL2 _ _ eR14
        have k15 : Kept D A1 H10 (upd H14 L2 (.lst (ig.map V.str))) := fun b o e n1 n2 => sL2 _ _ (k14 b o e n1 n2)
        generalize upd H14 L2 (.lst (ig.map V.str)) = H15 at eL2 d15 eR15 k15 ⊢
        refine ⟨R, L2, _, _, rfl, rfl, eR15, eL2, by rw [List.length_map, List.length_map, sizeLine_eq]; omega, fun L3 nL3 => ?_⟩
        rw [← List.map_append]
        have sL3 := same_new (o := .lst ((rs ++ ig).map V.str)) nL3
        have eL3 : (upd H15 L3 (.lst ((rs ++ ig).map V.str))) L3 = some (.lst ((rs ++ ig).map V.str)) := upd_same
        have d16 := d15.same sL3
        have k16 : Kept D A1 H10 (upd H15 L3 (.lst ((rs ++ ig).map V.str))) := fun b o e n1 n2 => sL3 _ _ (k15 b o e n1 n2)
        have L3D := fresh_ne d15 nL3
        generalize upd H15 L3 (.lst ((rs ++ ig).map V.str)) = H16 at eL3 d16 k16 ⊢
        have rok : ∀ x ∈ rs, okS x ∧ has x v_FLAGS = true := fun x hx => by
          have := List.all_eq_true.mp rules_ok x (hrs x hx)
          rw [Bool.and_eq_true, Bool.and_eq_true] at this
          exact ⟨ok_ascii this.1.1, this.1.2⟩
        have aok : ∀ x ∈ rs ++ ig, okS x ∧ has x v_FLAGS = true := fun x hx => by
          rcases List.mem_append.mp hx with h | h
          · exact rok x h
          · rw [hmem x h]
            exact ign_ok
        have la : (rs ++ ig).length ≤ 5 := by
          rw [List.length_append]
          omega
        refine ⟨D, A1, B, L3, m, rs ++ ig, rfl, d16, by omega, eL3, L3D.1, L3D.2, by omega, fun x hx => (aok x hx).1, fun H17 Fq xs n17 d17 hn17 k17 sq mem => ?_⟩
        -- the answer
        refine ⟨.str w, rfl, .str g', rfl, .ref Fq, rfl, w, g', Fq, xs, rfl, by omega, by omega, sq.elim (fun e => .inl (SqL.of e)) (fun e => .inr (SqT.of e)), fun z hz => (aok z ((mem z).mp hz)).2, fun H18 s18 => ?_⟩
        refine ⟨.bl du, rfl, _, _, rfl, fun H19 s19 => ⟨_, rfl, ?_⟩⟩
        have nI : ∀ x ∈ RULES, x ≠ "IGNORE_EXCEPTION_DETAIL" := fun x hx e => by
          have := List.all_eq_true.mp ign_ne x hx
          rw [e, beq_self_eq_true] at this
          cases this
        have hI : has "IGNORE_EXCEPTION_DETAIL" xs = (fr == 1) := by
          rw [← hign, Bool.eq_iff_iff, has_iff, has_iff, mem, List.mem_append]
          constructor
          · rintro (h | h)
            · exact absurd rfl (nI _ (hrs _ h))
            · exact h
          · exact .inr
        have hL : ∀ u v : List Nat, letsF u v xs = letsF u v rs := fun u v => letsF_has fun x hx => by
          rw [mem, List.mem_append]
          constructor
          · rintro (h | h)
            · exact h
            · exact absurd (hmem x h) (nI x hx)
          · exact .inl
        have eq : errF (tl w) (tl g') xs = du := by
          unfold errF
          rw [hL, hL, hI, hdu]
        rw [eq, beq_self_eq_true]
        refine iteF ⟨n17, _, _, _, rfl, (d17.same s18).same s19, ?_, fun b o e n1 n2 => s19 _ _ (s18 _ _ (k17 _ _ (k16 b o e n1 n2) n1 n2))⟩
        omega
      · rintro σ H11 ⟨m, v6, v7, v8, rfl, d11, hm, k11⟩
        have hm' : m ≤ n8 + 1 + 10 * (2 : Nat) := hm
        exact ⟨m, _, _, _, _, _, _, _, rfl, d11, by omega⟩
    · rintro σ H5 ⟨n, v2, v3, v4, v5, v6, v7, v8, rfl, d5, hn⟩
      refine ⟨by show 1 ≤ sizeLine; decide, fun R nR => ?_⟩
      have tR : (upd H5 R (.lst [.str "IGNORE_EXCEPTION_DETAIL"])) R = some (.lst [.str "IGNORE_EXCEPTION_DETAIL"]) := upd_same
      generalize upd H5 R (.lst [.str "IGNORE_EXCEPTION_DETAIL"]) = H6 at tR ⊢
      refine ⟨.ref R, rfl, _, _, R, ["IGNORE_EXCEPTION_DETAIL"], rfl, by decide +kernel, by decide +kernel, .inl (SqL.of tR), ign_all, fun H7 s7 => ⟨_, _, rfl, rfl, _, rfl, ?_⟩⟩
      rw [end1]
      refine iteT ⟨_, _, E_check_error0, [], rfl, by decide +kernel, by decide +kernel, .inr (Q_E_check_error0 H7), (by intro z h; cases h), fun H8 s8 => ⟨_, _, rfl, rfl, ?_⟩⟩
      rw [end2]
      exact k H8
end
set_option maxHeartbeats 0
theorem all_mk {l : PySem.W.OpenLaw} {w : World} {K : PySem.W.Frag} {h : Heap} {mg : Str → Option Value} {fa : Addr} {f0 : Addr} {od0 an0 : Option Addr} {sl0 : Array (Option Value)} {oc0 kV0 dc0 pm0 cd0 ct0 : Value}
    {f1 : Addr} {od1 an1 : Option Addr} {sl1 : Array (Option Value)} {oc1 kV1 dc1 pm1 cd1 ct1 : Value}
    {f2 : Addr} {od2 an2 : Option Addr} {sl2 : Array (Option Value)} {oc2 kV2 dc2 pm2 cd2 ct2 : Value}
    {f3 : Addr} {od3 an3 : Option Addr} {sl3 : Array (Option Value)} {oc3 kV3 dc3 pm3 cd3 ct3 : Value}
    {f4 : Addr} {od4 an4 : Option Addr} {sl4 : Array (Option Value)} {oc4 kV4 dc4 pm4 cd4 ct4 : Value}
    {f5 : Addr} {od5 an5 : Option Addr} {sl5 : Array (Option Value)} {oc5 kV5 dc5 pm5 cd5 ct5 : Value}
    {f6 : Addr} {od6 an6 : Option Addr} {sl6 : Array (Option Value)} {oc6 kV6 dc6 pm6 cd6 ct6 : Value}
    {f7 : Addr} {od7 an7 : Option Addr} {sl7 : Array (Option Value)} {oc7 kV7 dc7 pm7 cd7 ct7 : Value}
    {f8 : Addr} {od8 an8 : Option Addr} {sl8 : Array (Option Value)} {oc8 kV8 dc8 pm8 cd8 ct8 : Value}
    {f9 : Addr} {od9 an9 : Option Addr} {sl9 : Array (Option Value)} {oc9 kV9 dc9 pm9 cd9 ct9 : Value}
    {f10 : Addr} {od10 an10 : Option Addr} {sl10 : Array (Option Value)} {oc10 kV10 dc10 pm10 cd10 ct10 : Value}
    {E10_0 : Addr} {Ed10_0 : Option Addr} {En10_0 : Nat} {Es10_0 : Array (Option Value)}
    {T10 : Addr} {Tc10 : Value} {Td10 : Option Addr} {Tn10 : Nat} {Ts10 : Array (Option Value)}
    {f11 : Addr} {od11 an11 : Option Addr} {sl11 : Array (Option Value)} {oc11 kV11 dc11 pm11 cd11 ct11 : Value}
    {f12 : Addr} {od12 an12 : Option Addr} {sl12 : Array (Option Value)} {oc12 kV12 dc12 pm12 cd12 ct12 : Value}
    {f13 : Addr} {od13 an13 : Option Addr} {sl13 : Array (Option Value)} {oc13 kV13 dc13 pm13 cd13 ct13 : Value}
    {f14 : Addr} {od14 an14 : Option Addr} {sl14 : Array (Option Value)} {oc14 kV14 dc14 pm14 cd14 ct14 : Value}
    {f15 : Addr} {od15 an15 : Option Addr} {sl15 : Array (Option Value)} {oc15 kV15 dc15 pm15 cd15 ct15 : Value}
    {f16 : Addr} {od16 an16 : Option Addr} {sl16 : Array (Option Value)} {oc16 kV16 dc16 pm16 cd16 ct16 : Value}
    {f17 : Addr} {od17 an17 : Option Addr} {sl17 : Array (Option Value)} {oc17 kV17 dc17 pm17 cd17 ct17 : Value}
    {f18 : Addr} {od18 an18 : Option Addr} {sl18 : Array (Option Value)} {oc18 kV18 dc18 pm18 cd18 ct18 : Value}
    {f19 : Addr} {od19 an19 : Option Addr} {sl19 : Array (Option Value)} {oc19 kV19 dc19 pm19 cd19 ct19 : Value}
    {f20 : Addr} {od20 an20 : Option Addr} {sl20 : Array (Option Value)} {oc20 kV20 dc20 pm20 cd20 ct20 : Value}
    {f21 : Addr} {od21 an21 : Option Addr} {sl21 : Array (Option Value)} {oc21 kV21 dc21 pm21 cd21 ct21 : Value}
    {f22 : Addr} {od22 an22 : Option Addr} {sl22 : Array (Option Value)} {oc22 kV22 dc22 pm22 cd22 ct22 : Value}
    {f23 : Addr} {od23 an23 : Option Addr} {sl23 : Array (Option Value)} {oc23 kV23 dc23 pm23 cd23 ct23 : Value}
    {f24 : Addr} {od24 an24 : Option Addr} {sl24 : Array (Option Value)} {oc24 kV24 dc24 pm24 cd24 ct24 : Value}
    {f25 : Addr} {od25 an25 : Option Addr} {sl25 : Array (Option Value)} {oc25 kV25 dc25 pm25 cd25 ct25 : Value}
    {f26 : Addr} {od26 an26 : Option Addr} {sl26 : Array (Option Value)} {oc26 kV26 dc26 pm26 cd26 ct26 : Value}
    {f27 : Addr} {od27 an27 : Option Addr} {sl27 : Array (Option Value)} {oc27 kV27 dc27 pm27 cd27 ct27 : Value}
    {t_BLANKS : Tok}
    {t_DOTS : Tok}
    {t_ELLIPSIS : Tok}
    {a_FLAGS : Addr} {ad_FLAGS : Option Addr} {an_FLAGS : Nat} {as_FLAGS : Array (Option Value)} {t_FLAGS0 t_FLAGS1 t_FLAGS2 t_FLAGS3 t_FLAGS4 t_FLAGS5 t_FLAGS6 t_FLAGS7 : Tok}
    {t_IGNORE_DETAIL : Tok}
    {t_MARK : Tok}
    {t_NORMALIZE : Tok}
    {t_NO_BLANKLINE : Tok}
    {t_ONE_IS_NOT_TRUE : Tok}
    {a_TRUTHS : Addr} {an_TRUTHS : Nat} {h_TRUTHS0 h_TRUTHS1 : Int} {t_TRUTHS0 u_TRUTHS0 t_TRUTHS1 u_TRUTHS1 : Tok} (X : K.In h) (G : h.Ns mainGlobals mg) (hfa : mg "law" = some (.ref fa))
    (a0 : PySem.W.nsIn K mainGlobals "is_flag" = some (some (.ref f0))) (l0 : K.lookup f0 = some ⟨oc0, od0, .func (PySem.W.fnOf "is_flag" "is_flag" (defArgs s_is_flag) (defBody s_is_flag) (defScope s_is_flag) .none kV0 dc0 pm0 an0 cd0 ct0), sl0⟩) (e0 : PySem.W.codeIn K cd0 "is_flag" = true) (k0 : PySem.W.keepIn K (.ref f0) = true)
    (a1 : PySem.W.nsIn K mainGlobals "require_flags" = some (some (.ref f1))) (l1 : K.lookup f1 = some ⟨oc1, od1, .func (PySem.W.fnOf "require_flags" "require_flags" (defArgs s_require_flags) (defBody s_require_flags) (defScope s_require_flags) .none kV1 dc1 pm1 an1 cd1 ct1), sl1⟩) (e1 : PySem.W.codeIn K cd1 "require_flags" = true) (k1 : PySem.W.keepIn K (.ref f1) = true)
    (a2 : PySem.W.nsIn K mainGlobals "is_blank" = some (some (.ref f2))) (l2 : K.lookup f2 = some ⟨oc2, od2, .func (PySem.W.fnOf "is_blank" "is_blank" (defArgs s_is_blank) (defBody s_is_blank) (defScope s_is_blank) .none kV2 dc2 pm2 an2 cd2 ct2), sl2⟩) (e2 : PySem.W.codeIn K cd2 "is_blank" = true) (k2 : PySem.W.keepIn K (.ref f2) = true)
    (a3 : PySem.W.nsIn K mainGlobals "is_mark" = some (some (.ref f3))) (l3 : K.lookup f3 = some ⟨oc3, od3, .func (PySem.W.fnOf "is_mark" "is_mark" (defArgs s_is_mark) (defBody s_is_mark) (defScope s_is_mark) .none kV3 dc3 pm3 an3 cd3 ct3), sl3⟩) (e3 : PySem.W.codeIn K cd3 "is_mark" = true) (k3 : PySem.W.keepIn K (.ref f3) = true)
    (a4 : PySem.W.nsIn K mainGlobals "marks_emptied" = some (some (.ref f4))) (l4 : K.lookup f4 = some ⟨oc4, od4, .func (PySem.W.fnOf "marks_emptied" "marks_emptied" (defArgs s_marks_emptied) (defBody s_marks_emptied) (defScope s_marks_emptied) .none kV4 dc4 pm4 an4 cd4 ct4), sl4⟩) (e4 : PySem.W.codeIn K cd4 "marks_emptied" = true) (k4 : PySem.W.keepIn K (.ref f4) = true)
    (a5 : PySem.W.nsIn K mainGlobals "blanks_emptied" = some (some (.ref f5))) (l5 : K.lookup f5 = some ⟨oc5, od5, .func (PySem.W.fnOf "blanks_emptied" "blanks_emptied" (defArgs s_blanks_emptied) (defBody s_blanks_emptied) (defScope s_blanks_emptied) .none kV5 dc5 pm5 an5 cd5 ct5), sl5⟩) (e5 : PySem.W.codeIn K cd5 "blanks_emptied" = true) (k5 : PySem.W.keepIn K (.ref f5) = true)
    (a6 : PySem.W.nsIn K mainGlobals "words_of" = some (some (.ref f6))) (l6 : K.lookup f6 = some ⟨oc6, od6, .func (PySem.W.fnOf "words_of" "words_of" (defArgs s_words_of) (defBody s_words_of) (defScope s_words_of) .none kV6 dc6 pm6 an6 cd6 ct6), sl6⟩) (e6 : PySem.W.codeIn K cd6 "words_of" = true) (k6 : PySem.W.keepIn K (.ref f6) = true)
    (a7 : PySem.W.nsIn K mainGlobals "words_joined" = some (some (.ref f7))) (l7 : K.lookup f7 = some ⟨oc7, od7, .func (PySem.W.fnOf "words_joined" "words_joined" (defArgs s_words_joined) (defBody s_words_joined) (defScope s_words_joined) .none kV7 dc7 pm7 an7 cd7 ct7), sl7⟩) (e7 : PySem.W.codeIn K cd7 "words_joined" = true) (k7 : PySem.W.keepIn K (.ref f7) = true)
    (a8 : PySem.W.nsIn K mainGlobals "has_pieces" = some (some (.ref f8))) (l8 : K.lookup f8 = some ⟨oc8, od8, .func (PySem.W.fnOf "has_pieces" "has_pieces" (defArgs s_has_pieces) (defBody s_has_pieces) (defScope s_has_pieces) .none kV8 dc8 pm8 an8 cd8 ct8), sl8⟩) (e8 : PySem.W.codeIn K cd8 "has_pieces" = true) (k8 : PySem.W.keepIn K (.ref f8) = true)
    (a9 : PySem.W.nsIn K mainGlobals "lets_by" = some (some (.ref f9))) (l9 : K.lookup f9 = some ⟨oc9, od9, .func (PySem.W.fnOf "lets_by" "lets_by" (defArgs s_lets_by) (defBody s_lets_by) (defScope s_lets_by) .none kV9 dc9 pm9 an9 cd9 ct9), sl9⟩) (e9 : PySem.W.codeIn K cd9 "lets_by" = true) (k9 : PySem.W.keepIn K (.ref f9) = true)
    (a10 : PySem.W.nsIn K mainGlobals "check_error" = some (some (.ref f10))) (l10 : K.lookup f10 = some ⟨oc10, od10, .func (PySem.W.fnOf "check_error" "check_error" (defArgs s_check_error) (defBody s_check_error) (defScope s_check_error) (.ref T10) kV10 dc10 pm10 an10 cd10 ct10), sl10⟩) (e10 : PySem.W.codeIn K cd10 "check_error" = true) (k10 : PySem.W.keepIn K (.ref f10) = true)
    (t10 : K.lookup T10 = some ⟨Tc10, Td10, .seq #[.ref E10_0] Tn10, Ts10⟩) (u10_0 : K.lookup E10_0 = some ⟨.type "tuple", Ed10_0, .seq #[] En10_0, Es10_0⟩)
    (a11 : PySem.W.nsIn K mainGlobals "error_lets_by" = some (some (.ref f11))) (l11 : K.lookup f11 = some ⟨oc11, od11, .func (PySem.W.fnOf "error_lets_by" "error_lets_by" (defArgs s_error_lets_by) (defBody s_error_lets_by) (defScope s_error_lets_by) .none kV11 dc11 pm11 an11 cd11 ct11), sl11⟩) (e11 : PySem.W.codeIn K cd11 "error_lets_by" = true) (k11 : PySem.W.keepIn K (.ref f11) = true)
    (a12 : PySem.W.nsIn K mainGlobals "detail_free" = some (some (.ref f12))) (l12 : K.lookup f12 = some ⟨oc12, od12, .func (PySem.W.fnOf "detail_free" "detail_free" (defArgs s_detail_free) (defBody s_detail_free) (defScope s_detail_free) .none kV12 dc12 pm12 an12 cd12 ct12), sl12⟩) (e12 : PySem.W.codeIn K cd12 "detail_free" = true) (k12 : PySem.W.keepIn K (.ref f12) = true)
    (a13 : PySem.W.nsIn K mainGlobals "_law_draws" = some (some (.ref f13))) (l13 : K.lookup f13 = some ⟨oc13, od13, .func (PySem.W.fnOf "_law_draws" "_law_draws" (defArgs s_law_draws) (defBody s_law_draws) (defScope s_law_draws) .none kV13 dc13 pm13 an13 cd13 ct13), sl13⟩) (e13 : PySem.W.codeIn K cd13 "_law_draws" = true) (k13 : PySem.W.keepIn K (.ref f13) = true)
    (a14 : PySem.W.nsIn K mainGlobals "_law_mixed" = some (some (.ref f14))) (l14 : K.lookup f14 = some ⟨oc14, od14, .func (PySem.W.fnOf "_law_mixed" "_law_mixed" (defArgs s_law_mixed) (defBody s_law_mixed) (defScope s_law_mixed) .none kV14 dc14 pm14 an14 cd14 ct14), sl14⟩) (e14 : PySem.W.codeIn K cd14 "_law_mixed" = true) (k14 : PySem.W.keepIn K (.ref f14) = true)
    (a15 : PySem.W.nsIn K mainGlobals "_law_take" = some (some (.ref f15))) (l15 : K.lookup f15 = some ⟨oc15, od15, .func (PySem.W.fnOf "_law_take" "_law_take" (defArgs s_law_take) (defBody s_law_take) (defScope s_law_take) .none kV15 dc15 pm15 an15 cd15 ct15), sl15⟩) (e15 : PySem.W.codeIn K cd15 "_law_take" = true) (k15 : PySem.W.keepIn K (.ref f15) = true)
    (a16 : PySem.W.nsIn K mainGlobals "_law_same" = some (some (.ref f16))) (l16 : K.lookup f16 = some ⟨oc16, od16, .func (PySem.W.fnOf "_law_same" "_law_same" (defArgs s_law_same) (defBody s_law_same) (defScope s_law_same) .none kV16 dc16 pm16 an16 cd16 ct16), sl16⟩) (e16 : PySem.W.codeIn K cd16 "_law_same" = true) (k16 : PySem.W.keepIn K (.ref f16) = true)
    (a17 : PySem.W.nsIn K mainGlobals "_law_pick" = some (some (.ref f17))) (l17 : K.lookup f17 = some ⟨oc17, od17, .func (PySem.W.fnOf "_law_pick" "_law_pick" (defArgs s_law_pick) (defBody s_law_pick) (defScope s_law_pick) .none kV17 dc17 pm17 an17 cd17 ct17), sl17⟩) (e17 : PySem.W.codeIn K cd17 "_law_pick" = true) (k17 : PySem.W.keepIn K (.ref f17) = true)
    (a18 : PySem.W.nsIn K mainGlobals "_law_cleared" = some (some (.ref f18))) (l18 : K.lookup f18 = some ⟨oc18, od18, .func (PySem.W.fnOf "_law_cleared" "_law_cleared" (defArgs s_law_cleared) (defBody s_law_cleared) (defScope s_law_cleared) .none kV18 dc18 pm18 an18 cd18 ct18), sl18⟩) (e18 : PySem.W.codeIn K cd18 "_law_cleared" = true) (k18 : PySem.W.keepIn K (.ref f18) = true)
    (a19 : PySem.W.nsIn K mainGlobals "_law_words" = some (some (.ref f19))) (l19 : K.lookup f19 = some ⟨oc19, od19, .func (PySem.W.fnOf "_law_words" "_law_words" (defArgs s_law_words) (defBody s_law_words) (defScope s_law_words) .none kV19 dc19 pm19 an19 cd19 ct19), sl19⟩) (e19 : PySem.W.codeIn K cd19 "_law_words" = true) (k19 : PySem.W.keepIn K (.ref f19) = true)
    (a20 : PySem.W.nsIn K mainGlobals "_law_pieces" = some (some (.ref f20))) (l20 : K.lookup f20 = some ⟨oc20, od20, .func (PySem.W.fnOf "_law_pieces" "_law_pieces" (defArgs s_law_pieces) (defBody s_law_pieces) (defScope s_law_pieces) .none kV20 dc20 pm20 an20 cd20 ct20), sl20⟩) (e20 : PySem.W.codeIn K cd20 "_law_pieces" = true) (k20 : PySem.W.keepIn K (.ref f20) = true)
    (a21 : PySem.W.nsIn K mainGlobals "_law_fits" = some (some (.ref f21))) (l21 : K.lookup f21 = some ⟨oc21, od21, .func (PySem.W.fnOf "_law_fits" "_law_fits" (defArgs s_law_fits) (defBody s_law_fits) (defScope s_law_fits) .none kV21 dc21 pm21 an21 cd21 ct21), sl21⟩) (e21 : PySem.W.codeIn K cd21 "_law_fits" = true) (k21 : PySem.W.keepIn K (.ref f21) = true)
    (a22 : PySem.W.nsIn K mainGlobals "_law_lets" = some (some (.ref f22))) (l22 : K.lookup f22 = some ⟨oc22, od22, .func (PySem.W.fnOf "_law_lets" "_law_lets" (defArgs s_law_lets) (defBody s_law_lets) (defScope s_law_lets) .none kV22 dc22 pm22 an22 cd22 ct22), sl22⟩) (e22 : PySem.W.codeIn K cd22 "_law_lets" = true) (k22 : PySem.W.keepIn K (.ref f22) = true)
    (a23 : PySem.W.nsIn K mainGlobals "_law_rules" = some (some (.ref f23))) (l23 : K.lookup f23 = some ⟨oc23, od23, .func (PySem.W.fnOf "_law_rules" "_law_rules" (defArgs s_law_rules) (defBody s_law_rules) (defScope s_law_rules) .none kV23 dc23 pm23 an23 cd23 ct23), sl23⟩) (e23 : PySem.W.codeIn K cd23 "_law_rules" = true) (k23 : PySem.W.keepIn K (.ref f23) = true)
    (a24 : PySem.W.nsIn K mainGlobals "_law_handed" = some (some (.ref f24))) (l24 : K.lookup f24 = some ⟨oc24, od24, .func (PySem.W.fnOf "_law_handed" "_law_handed" (defArgs s_law_handed) (defBody s_law_handed) (defScope s_law_handed) .none kV24 dc24 pm24 an24 cd24 ct24), sl24⟩) (e24 : PySem.W.codeIn K cd24 "_law_handed" = true) (k24 : PySem.W.keepIn K (.ref f24) = true)
    (a25 : PySem.W.nsIn K mainGlobals "_law_bare_name" = some (some (.ref f25))) (l25 : K.lookup f25 = some ⟨oc25, od25, .func (PySem.W.fnOf "_law_bare_name" "_law_bare_name" (defArgs s_law_bare_name) (defBody s_law_bare_name) (defScope s_law_bare_name) .none kV25 dc25 pm25 an25 cd25 ct25), sl25⟩) (e25 : PySem.W.codeIn K cd25 "_law_bare_name" = true) (k25 : PySem.W.keepIn K (.ref f25) = true)
    (a26 : PySem.W.nsIn K mainGlobals "_law_error" = some (some (.ref f26))) (l26 : K.lookup f26 = some ⟨oc26, od26, .func (PySem.W.fnOf "_law_error" "_law_error" (defArgs s_law_error) (defBody s_law_error) (defScope s_law_error) .none kV26 dc26 pm26 an26 cd26 ct26), sl26⟩) (e26 : PySem.W.codeIn K cd26 "_law_error" = true) (k26 : PySem.W.keepIn K (.ref f26) = true)
    (a27 : PySem.W.nsIn K mainGlobals "law" = some (some (.ref f27))) (l27 : K.lookup f27 = some ⟨oc27, od27, .func (PySem.W.fnOf "law" "law" (defArgs s_law) (defBody s_law) (defScope s_law) .none kV27 dc27 pm27 an27 cd27 ct27), sl27⟩) (e27 : PySem.W.codeIn K cd27 "law" = true) (k27 : PySem.W.keepIn K (.ref f27) = true)
    (y_BLANKS : PySem.W.nsIn K mainGlobals "BLANKS" = some (some (.str " \t" t_BLANKS)))
    (y_DOTS : PySem.W.nsIn K mainGlobals "DOTS" = some (some (.str "..." t_DOTS)))
    (y_ELLIPSIS : PySem.W.nsIn K mainGlobals "ELLIPSIS" = some (some (.str "ELLIPSIS" t_ELLIPSIS)))
    (y_FLAGS : PySem.W.nsIn K mainGlobals "FLAGS" = some (some (.ref a_FLAGS))) (x_FLAGS : K.lookup a_FLAGS = some ⟨.type "tuple", ad_FLAGS, .seq #[.str "DONT_ACCEPT_TRUE_FOR_1" t_FLAGS0, .str "DONT_ACCEPT_BLANKLINE" t_FLAGS1, .str "NORMALIZE_WHITESPACE" t_FLAGS2, .str "ELLIPSIS" t_FLAGS3, .str "SKIP" t_FLAGS4, .str "IGNORE_EXCEPTION_DETAIL" t_FLAGS5, .str "REPORT_ONLY_FIRST_FAILURE" t_FLAGS6, .str "FAIL_FAST" t_FLAGS7] an_FLAGS, as_FLAGS⟩)
    (y_IGNORE_DETAIL : PySem.W.nsIn K mainGlobals "IGNORE_DETAIL" = some (some (.str "IGNORE_EXCEPTION_DETAIL" t_IGNORE_DETAIL)))
    (y_MARK : PySem.W.nsIn K mainGlobals "MARK" = some (some (.str "<BLANKLINE>" t_MARK)))
    (y_NORMALIZE : PySem.W.nsIn K mainGlobals "NORMALIZE" = some (some (.str "NORMALIZE_WHITESPACE" t_NORMALIZE)))
    (y_NO_BLANKLINE : PySem.W.nsIn K mainGlobals "NO_BLANKLINE" = some (some (.str "DONT_ACCEPT_BLANKLINE" t_NO_BLANKLINE)))
    (y_ONE_IS_NOT_TRUE : PySem.W.nsIn K mainGlobals "ONE_IS_NOT_TRUE" = some (some (.str "DONT_ACCEPT_TRUE_FOR_1" t_ONE_IS_NOT_TRUE)))
    (y_TRUTHS : PySem.W.nsIn K mainGlobals "TRUTHS" = some (some (.ref a_TRUTHS))) (x_TRUTHS : K.lookup a_TRUTHS = some ⟨.type "dict", none, .dict #[⟨h_TRUTHS0, .str "1\n" t_TRUTHS0, .str "True\n" u_TRUTHS0⟩, ⟨h_TRUTHS1, .str "0\n" t_TRUTHS1, .str "False\n" u_TRUTHS1⟩] an_TRUTHS, #[]⟩) (w_TRUTHS : (a_TRUTHS == sysModules) = false) (h_TRUTHS0_ok : h_TRUTHS0 = PyData.keyHash w.params "1\n") (h_TRUTHS1_ok : h_TRUTHS1 = PyData.keyHash w.params "0\n")
    (z_bool : PySem.W.nsIn K mainGlobals "bool" = some none)
    (z_enumerate : PySem.W.nsIn K mainGlobals "enumerate" = some none)
    (z_int : PySem.W.nsIn K mainGlobals "int" = some none)
    (z_isinstance : PySem.W.nsIn K mainGlobals "isinstance" = some none)
    (z_len : PySem.W.nsIn K mainGlobals "len" = some none)
    (z_list : PySem.W.nsIn K mainGlobals "list" = some none)
    (z_min : PySem.W.nsIn K mainGlobals "min" = some none)
    (z_range : PySem.W.nsIn K mainGlobals "range" = some none)
    (z_str : PySem.W.nsIn K mainGlobals "str" = some none)
    (z_tuple : PySem.W.nsIn K mainGlobals "tuple" = some none)
    :
    ∃ fd : FuncData, (∀ (s : Shared) (v : Value), BindsTo s fd ⟨[v], []⟩ [("script", v)]) ∧ ∀ base : Heap, K.In base → base.Ns mainGlobals mg → FnOk l.prog w K mg base CX0 7 fa fd ["script"] (sp_law K) := by
  have e := hfa.symm.trans (PySem.W.mg_of X G a27)
  cases e
  have F0 : Fn K "is_flag" s_is_flag [] _ _ := Fn.mk' l0 e0 k0 (.inl ⟨rfl, rfl⟩)
  have F1 : Fn K "require_flags" s_require_flags [] _ _ := Fn.mk' l1 e1 k1 (.inl ⟨rfl, rfl⟩)
  have F2 : Fn K "is_blank" s_is_blank [] _ _ := Fn.mk' l2 e2 k2 (.inl ⟨rfl, rfl⟩)
  have F3 : Fn K "is_mark" s_is_mark [] _ _ := Fn.mk' l3 e3 k3 (.inl ⟨rfl, rfl⟩)
  have F4 : Fn K "marks_emptied" s_marks_emptied [] _ _ := Fn.mk' l4 e4 k4 (.inl ⟨rfl, rfl⟩)
  have F5 : Fn K "blanks_emptied" s_blanks_emptied [] _ _ := Fn.mk' l5 e5 k5 (.inl ⟨rfl, rfl⟩)
  have F6 : Fn K "words_of" s_words_of [] _ _ := Fn.mk' l6 e6 k6 (.inl ⟨rfl, rfl⟩)
  have F7 : Fn K "words_joined" s_words_joined [] _ _ := Fn.mk' l7 e7 k7 (.inl ⟨rfl, rfl⟩)
  have F8 : Fn K "has_pieces" s_has_pieces [] _ _ := Fn.mk' l8 e8 k8 (.inl ⟨rfl, rfl⟩)
  have F9 : Fn K "lets_by" s_lets_by [] _ _ := Fn.mk' l9 e9 k9 (.inl ⟨rfl, rfl⟩)
  have F10 : Fn K "check_error" s_check_error [.ref E10_0] _ _ := Fn.mk' l10 e10 k10 (.inr ⟨by simp, T10, _, _, _, rfl, t10, rfl, (.cons rfl .nil)⟩)
  have Q_E_check_error0 : ∀ H, SqT K H E10_0 [] := fun H => .inr ⟨_, #[], _, u10_0, rfl, rfl, by decide, .nil⟩
  have F11 : Fn K "error_lets_by" s_error_lets_by [] _ _ := Fn.mk' l11 e11 k11 (.inl ⟨rfl, rfl⟩)
  have F12 : Fn K "detail_free" s_detail_free [] _ _ := Fn.mk' l12 e12 k12 (.inl ⟨rfl, rfl⟩)
  have F13 : Fn K "_law_draws" s_law_draws [] _ _ := Fn.mk' l13 e13 k13 (.inl ⟨rfl, rfl⟩)
  have F14 : Fn K "_law_mixed" s_law_mixed [] _ _ := Fn.mk' l14 e14 k14 (.inl ⟨rfl, rfl⟩)
  have F15 : Fn K "_law_take" s_law_take [] _ _ := Fn.mk' l15 e15 k15 (.inl ⟨rfl, rfl⟩)
  have F16 : Fn K "_law_same" s_law_same [] _ _ := Fn.mk' l16 e16 k16 (.inl ⟨rfl, rfl⟩)
  have F17 : Fn K "_law_pick" s_law_pick [] _ _ := Fn.mk' l17 e17 k17 (.inl ⟨rfl, rfl⟩)
  have F18 : Fn K "_law_cleared" s_law_cleared [] _ _ := Fn.mk' l18 e18 k18 (.inl ⟨rfl, rfl⟩)
  have F19 : Fn K "_law_words" s_law_words [] _ _ := Fn.mk' l19 e19 k19 (.inl ⟨rfl, rfl⟩)
  have F20 : Fn K "_law_pieces" s_law_pieces [] _ _ := Fn.mk' l20 e20 k20 (.inl ⟨rfl, rfl⟩)
  have F21 : Fn K "_law_fits" s_law_fits [] _ _ := Fn.mk' l21 e21 k21 (.inl ⟨rfl, rfl⟩)
  have F22 : Fn K "_law_lets" s_law_lets [] _ _ := Fn.mk' l22 e22 k22 (.inl ⟨rfl, rfl⟩)
  have F23 : Fn K "_law_rules" s_law_rules [] _ _ := Fn.mk' l23 e23 k23 (.inl ⟨rfl, rfl⟩)
  have F24 : Fn K "_law_handed" s_law_handed [] _ _ := Fn.mk' l24 e24 k24 (.inl ⟨rfl, rfl⟩)
  have F25 : Fn K "_law_bare_name" s_law_bare_name [] _ _ := Fn.mk' l25 e25 k25 (.inl ⟨rfl, rfl⟩)
  have F26 : Fn K "_law_error" s_law_error [] _ _ := Fn.mk' l26 e26 k26 (.inl ⟨rfl, rfl⟩)
  have F27 : Fn K "law" s_law [] _ _ := Fn.mk' l27 e27 k27 (.inl ⟨rfl, rfl⟩)
  have m_bool : mg "bool" = none := PySem.W.mg_none_of X G z_bool
  have m_enumerate : mg "enumerate" = none := PySem.W.mg_none_of X G z_enumerate
  have m_int : mg "int" = none := PySem.W.mg_none_of X G z_int
  have m_isinstance : mg "isinstance" = none := PySem.W.mg_none_of X G z_isinstance
  have m_len : mg "len" = none := PySem.W.mg_none_of X G z_len
  have m_list : mg "list" = none := PySem.W.mg_none_of X G z_list
  have m_min : mg "min" = none := PySem.W.mg_none_of X G z_min
  have m_range : mg "range" = none := PySem.W.mg_none_of X G z_range
  have m_str : mg "str" = none := PySem.W.mg_none_of X G z_str
  have m_tuple : mg "tuple" = none := PySem.W.mg_none_of X G z_tuple
  have c_BLANKS := PySem.W.mg_of X G y_BLANKS
  have c_DOTS := PySem.W.mg_of X G y_DOTS
  have c_ELLIPSIS := PySem.W.mg_of X G y_ELLIPSIS
  have c_FLAGS := PySem.W.mg_of X G y_FLAGS
  have q_FLAGS : ∀ H, SqT K H a_FLAGS (v_FLAGS.map V.str) := fun H => .inr ⟨_, _, _, x_FLAGS, rfl, rfl, by show 8 ≤ sizeLine; decide, (.cons ⟨_, rfl⟩ (.cons ⟨_, rfl⟩ (.cons ⟨_, rfl⟩ (.cons ⟨_, rfl⟩ (.cons ⟨_, rfl⟩ (.cons ⟨_, rfl⟩ (.cons ⟨_, rfl⟩ (.cons ⟨_, rfl⟩ .nil))))))))⟩
  have c_IGNORE_DETAIL := PySem.W.mg_of X G y_IGNORE_DETAIL
  have c_MARK := PySem.W.mg_of X G y_MARK
  have c_NORMALIZE := PySem.W.mg_of X G y_NORMALIZE
  have c_NO_BLANKLINE := PySem.W.mg_of X G y_NO_BLANKLINE
  have c_ONE_IS_NOT_TRUE := PySem.W.mg_of X G y_ONE_IS_NOT_TRUE
  have c_TRUTHS := PySem.W.mg_of X G y_TRUTHS
  have kd_TRUTHS : KDict K w a_TRUTHS _ _ := ⟨x_TRUTHS, ⟨⟨_, _, rfl, h_TRUTHS0_ok⟩, ⟨⟨_, _, rfl, h_TRUTHS1_ok⟩, trivial⟩⟩, w_TRUTHS⟩
  have g_TRUTHS : ∀ z : Str, ∃ r, PySem.W.nsIn K a_TRUTHS z = some r ∧ RelV (v_TRUTHS z) (r.getD .none) := dict_TRUTHS x_TRUTHS
  refine ⟨PySem.W.fnOf "law" "law" (defArgs s_law) (defBody s_law) (defScope s_law) .none kV27 dc27 pm27 an27 cd27 ct27, fun s v => .of_eq rfl, fun base _ _ => ?_⟩
  have O_is_flag : Own l.prog w K mg base "is_flag" 1 ["thing"] [] (sp_is_flag) := by
    exact ⟨_, _, [], ok_is_flag F0 m_isinstance m_str c_FLAGS q_FLAGS, PySem.W.mg_of X G a0, F0.kp, F0.bindsN (ps := ["thing"]) (fun _ _ _ _ _ _ us hl => match us, hl with | [_], _ => rfl), .nil⟩
  have O_is_blank : Own l.prog w K mg base "is_blank" 1 ["line"] [] (sp_is_blank) := by
    exact ⟨_, _, [], ok_is_blank F2 c_BLANKS, PySem.W.mg_of X G a2, F2.kp, F2.bindsN (ps := ["line"]) (fun _ _ _ _ _ _ us hl => match us, hl with | [_], _ => rfl), .nil⟩
  have O_words_of : OwnT l.prog w K mg base "words_of" 1 ["text"] [] (sp_words_of) := by
    exact ⟨_, _, [], ok_words_of F6, PySem.W.mg_of X G a6, F6.kp, F6.bindsN (ps := ["text"]) (fun _ _ _ _ _ _ us hl => match us, hl with | [_], _ => rfl), .nil⟩
  have O_has_pieces : Own l.prog w K mg base "has_pieces" 1 ["pieces", "got"] [] (sp_has_pieces) := by
    exact ⟨_, _, [], ok_has_pieces F8 m_len, PySem.W.mg_of X G a8, F8.kp, F8.bindsN (ps := ["pieces", "got"]) (fun _ _ _ _ _ _ us hl => match us, hl with | [_, _], _ => rfl), .nil⟩
  have O_detail_free : Own l.prog w K mg base "detail_free" 1 ["text"] [] (sp_detail_free) := by
    exact ⟨_, _, [], ok_detail_free F12, PySem.W.mg_of X G a12, F12.kp, F12.bindsN (ps := ["text"]) (fun _ _ _ _ _ _ us hl => match us, hl with | [_], _ => rfl), .nil⟩
  have O_law_draws : OwnK l.prog w K mg base "_law_draws" 1 ["script"] [] (sp_law_draws K) := by
    exact ⟨_, _, [], ok_law_draws F13, PySem.W.mg_of X G a13, F13.kp, F13.bindsN (ps := ["script"]) (fun _ _ _ _ _ _ us hl => match us, hl with | [_], _ => rfl), .nil⟩
  have O_law_mixed : Own l.prog w K mg base "_law_mixed" 1 ["seed", "k"] [] (sp_law_mixed) := by
    exact ⟨_, _, [], ok_law_mixed F14 m_int, PySem.W.mg_of X G a14, F14.kp, F14.bindsN (ps := ["seed", "k"]) (fun _ _ _ _ _ _ us hl => match us, hl with | [_, _], _ => rfl), .nil⟩
  have O_law_same : Own l.prog w K mg base "_law_same" 1 ["found", "due"] [] (sp_law_same) := by
    exact ⟨_, _, [], ok_law_same F16 m_bool m_int m_isinstance m_list m_tuple, PySem.W.mg_of X G a16, F16.kp, F16.bindsN (ps := ["found", "due"]) (fun _ _ _ _ _ _ us hl => match us, hl with | [_, _], _ => rfl), .nil⟩
  have O_law_cleared : Own l.prog w K mg base "_law_cleared" 1 ["text", "is_want"] [] (sp_law_cleared) := by
    exact ⟨_, _, [], ok_law_cleared F18, PySem.W.mg_of X G a18, F18.kp, F18.bindsN (ps := ["text", "is_want"]) (fun _ _ _ _ _ _ us hl => match us, hl with | [_, _], _ => rfl), .nil⟩
  have O_law_words : Own l.prog w K mg base "_law_words" 1 ["text"] [] (sp_law_words) := by
    exact ⟨_, _, [], ok_law_words F19 m_int, PySem.W.mg_of X G a19, F19.kp, F19.bindsN (ps := ["text"]) (fun _ _ _ _ _ _ us hl => match us, hl with | [_], _ => rfl), .nil⟩
  have O_law_pieces : Own l.prog w K mg base "_law_pieces" 1 ["text"] [] (sp_law_pieces) := by
    exact ⟨_, _, [], ok_law_pieces F20 m_len, PySem.W.mg_of X G a20, F20.kp, F20.bindsN (ps := ["text"]) (fun _ _ _ _ _ _ us hl => match us, hl with | [_], _ => rfl), .nil⟩
  have O_law_fits : Own l.prog w K mg base "_law_fits" 1 ["pieces", "got"] [] (sp_law_fits) := by
    exact ⟨_, _, [], ok_law_fits F21 m_enumerate m_len m_list m_min m_range, PySem.W.mg_of X G a21, F21.kp, F21.bindsN (ps := ["pieces", "got"]) (fun _ _ _ _ _ _ us hl => match us, hl with | [_, _], _ => rfl), .nil⟩
  have O_law_bare_name : Own l.prog w K mg base "_law_bare_name" 1 ["text"] [] (sp_law_bare_name) := by
    exact ⟨_, _, [], ok_law_bare_name F25, PySem.W.mg_of X G a25, F25.kp, F25.bindsN (ps := ["text"]) (fun _ _ _ _ _ _ us hl => match us, hl with | [_], _ => rfl), .nil⟩
  have O_require_flags : Own l.prog w K mg base "require_flags" 2 ["flags"] [] (sp_require_flags K) := by
    exact ⟨_, _, [], ok_require_flags F1 O_is_flag, PySem.W.mg_of X G a1, F1.kp, F1.bindsN (ps := ["flags"]) (fun _ _ _ _ _ _ us hl => match us, hl with | [_], _ => rfl), .nil⟩
  have O_is_mark : Own l.prog w K mg base "is_mark" 2 ["line"] [] (sp_is_mark) := by
    exact ⟨_, _, [], ok_is_mark F3 O_is_blank m_len c_MARK, PySem.W.mg_of X G a3, F3.kp, F3.bindsN (ps := ["line"]) (fun _ _ _ _ _ _ us hl => match us, hl with | [_], _ => rfl), .nil⟩
  have O_blanks_emptied : Own l.prog w K mg base "blanks_emptied" 2 ["got"] [] (sp_blanks_emptied) := by
    exact ⟨_, _, [], ok_blanks_emptied F5 O_is_blank, PySem.W.mg_of X G a5, F5.kp, F5.bindsN (ps := ["got"]) (fun _ _ _ _ _ _ us hl => match us, hl with | [_], _ => rfl), .nil⟩
  have O_words_joined : OwnT l.prog w K mg base "words_joined" 2 ["text"] [] (sp_words_joined) := by
    exact ⟨_, _, [], ok_words_joined F7 O_words_of, PySem.W.mg_of X G a7, F7.kp, F7.bindsN (ps := ["text"]) (fun _ _ _ _ _ _ us hl => match us, hl with | [_], _ => rfl), .nil⟩
  have O_law_take : Own l.prog w K mg base "_law_take" 2 ["draws", "size"] [] (sp_law_take) := by
    exact ⟨_, _, [], ok_law_take F15 O_law_mixed m_int m_len, PySem.W.mg_of X G a15, F15.kp, F15.bindsN (ps := ["draws", "size"]) (fun _ _ _ _ _ _ us hl => match us, hl with | [_, _], _ => rfl), .nil⟩
  have O_law_lets : Own l.prog w K mg base "_law_lets" 2 ["want", "got", "rules"] [] (sp_law_lets K) := by
    exact ⟨_, _, [], ok_law_lets F22 O_law_cleared O_law_words O_law_pieces O_law_fits m_len, PySem.W.mg_of X G a22, F22.kp, F22.bindsN (ps := ["want", "got", "rules"]) (fun _ _ _ _ _ _ us hl => match us, hl with | [_, _, _], _ => rfl), .nil⟩
  have O_marks_emptied : Own l.prog w K mg base "marks_emptied" 3 ["want"] [] (sp_marks_emptied) := by
    exact ⟨_, _, [], ok_marks_emptied F4 O_is_mark, PySem.W.mg_of X G a4, F4.kp, F4.bindsN (ps := ["want"]) (fun _ _ _ _ _ _ us hl => match us, hl with | [_], _ => rfl), .nil⟩
  have O_law_pick : Own l.prog w K mg base "_law_pick" 3 ["draws", "some"] [] (sp_law_pick) := by
    exact ⟨_, _, [], ok_law_pick F17 O_law_take m_len, PySem.W.mg_of X G a17, F17.kp, F17.bindsN (ps := ["draws", "some"]) (fun _ _ _ _ _ _ us hl => match us, hl with | [_, _], _ => rfl), .nil⟩
  have O_law_rules : Own l.prog w K mg base "_law_rules" 3 ["draws"] [] (sp_law_rules) := by
    exact ⟨_, _, [], ok_law_rules F23 O_law_take, PySem.W.mg_of X G a23, F23.kp, F23.bindsN (ps := ["draws"]) (fun _ _ _ _ _ _ us hl => match us, hl with | [_], _ => rfl), .nil⟩
  have O_law_handed : Own l.prog w K mg base "_law_handed" 3 ["draws", "rules"] [] (sp_law_handed) := by
    exact ⟨_, _, [], ok_law_handed F24 O_law_take m_len m_list m_tuple, PySem.W.mg_of X G a24, F24.kp, F24.bindsN (ps := ["draws", "rules"]) (fun _ _ _ _ _ _ us hl => match us, hl with | [_, _], _ => rfl), .nil⟩
  have O_lets_by : OwnT l.prog w K mg base "lets_by" 4 ["want", "got", "flags"] [] (sp_lets_by K) := by
    exact ⟨_, _, [], ok_lets_by F9 O_marks_emptied O_blanks_emptied O_words_joined O_has_pieces c_DOTS c_ELLIPSIS c_NORMALIZE c_NO_BLANKLINE c_ONE_IS_NOT_TRUE c_TRUTHS kd_TRUTHS g_TRUTHS, PySem.W.mg_of X G a9, F9.kp, F9.bindsN (ps := ["want", "got", "flags"]) (fun _ _ _ _ _ _ us hl => match us, hl with | [_, _, _], _ => rfl), .nil⟩
  have O_law_error : Own l.prog w K mg base "_law_error" 4 ["draws"] [] (sp_law_error) := by
    exact ⟨_, _, [], ok_law_error F26 O_law_pick, PySem.W.mg_of X G a26, F26.kp, F26.bindsN (ps := ["draws"]) (fun _ _ _ _ _ _ us hl => match us, hl with | [_], _ => rfl), .nil⟩
  have O_error_lets_by : OwnT l.prog w K mg base "error_lets_by" 5 ["want", "got", "flags"] [] (sp_error_lets_by K) := by
    exact ⟨_, _, [], ok_error_lets_by F11 O_lets_by O_detail_free c_IGNORE_DETAIL, PySem.W.mg_of X G a11, F11.kp, F11.bindsN (ps := ["want", "got", "flags"]) (fun _ _ _ _ _ _ us hl => match us, hl with | [_, _, _], _ => rfl), .nil⟩
  have O_check_error : OwnT l.prog w K mg base "check_error" 6 ["want", "got", "flags"] [] (sp_check_error K) := by
    obtain ⟨ds, vd, bd⟩ := F10.binds1 (ps := ["want", "got", "flags"]) 3 1 (by simp) rfl (fun T kV doc pm an cdv ct us its h1 h2 => match us, its, h1, h2 with | [_, _, _], [_], _, _ => ⟨_, rfl, rfl⟩)
    exact ⟨_, _, ds, ok_check_error F10 O_require_flags O_error_lets_by, PySem.W.mg_of X G a10, F10.kp, bd, vd⟩
  have O_check_error_d2 : OwnT l.prog w K mg base "check_error" 6 ["want", "got", "flags"] [.ref E10_0] (sp_check_error K) := by
    obtain ⟨ds, vd, bd⟩ := F10.binds1 (ps := ["want", "got", "flags"]) 2 0 (by simp) rfl (fun T kV doc pm an cdv ct us its h1 h2 => match us, its, h1, h2 with | [_, _], [_], _, _ => ⟨_, rfl, rfl⟩)
    exact ⟨_, _, ds, ok_check_error F10 O_require_flags O_error_lets_by, PySem.W.mg_of X G a10, F10.kp, bd, vd⟩
  exact ok_law F27 O_law_draws O_law_error O_law_rules O_law_take O_law_lets O_law_bare_name O_law_handed O_law_same O_check_error Q_E_check_error0 O_check_error_d2 m_range
end Pq
open PySem PySem.W PyProof.Rows
set_option maxRecDepth 100000 in
set_option maxHeartbeats 0 in
theorem PySem.Challenge.cw_promptyard_k09_errors_compared_holds : PySem.Challenge.rw_promptyard_k09_errors_compared.Holds := by
  w_on; o_law; k_head; (case hw => w_witness2)
  k_fill
  refine L2.walk_of (l := PySem.Challenge.rw_promptyard_k09_errors_compared) (n := 63) (k := 7) (x := "script") (CX := fun _ => L2.CX0) (sp := fun w => Pq.sp_law _) rfl (by decide) rfl ⟨rfl, by decide, by decide⟩ (fun w h Y => PySem.W.kIn_of Y) ?F (fun _ _ a ns hl _ hS => ⟨a, ns, rfl, hS, hl, fun _ => rfl⟩) (fun _ _ _ _ _ h => h)
  case F =>
    intro w mg fa h KX G hmg
    refine' Pq.all_mk KX G hmg ?a0 ?l0 ?e0 ?k0 ?a1 ?l1 ?e1 ?k1 ?a2 ?l2 ?e2 ?k2 ?a3 ?l3 ?e3 ?k3 ?a4 ?l4 ?e4 ?k4 ?a5 ?l5 ?e5 ?k5 ?a6 ?l6 ?e6 ?k6 ?a7 ?l7 ?e7 ?k7 ?a8 ?l8 ?e8 ?k8 ?a9 ?l9 ?e9 ?k9 ?a10 ?l10 ?e10 ?k10 ?t10 ?u10_0 ?a11 ?l11 ?e11 ?k11 ?a12 ?l12 ?e12 ?k12 ?a13 ?l13 ?e13 ?k13 ?a14 ?l14 ?e14 ?k14 ?a15 ?l15 ?e15 ?k15 ?a16 ?l16 ?e16 ?k16 ?a17 ?l17 ?e17 ?k17 ?a18 ?l18 ?e18 ?k18 ?a19 ?l19 ?e19 ?k19 ?a20 ?l20 ?e20 ?k20 ?a21 ?l21 ?e21 ?k21 ?a22 ?l22 ?e22 ?k22 ?a23 ?l23 ?e23 ?k23 ?a24 ?l24 ?e24 ?k24 ?a25 ?l25 ?e25 ?k25 ?a26 ?l26 ?e26 ?k26 ?a27 ?l27 ?e27 ?k27 ?y_BLANKS ?y_DOTS ?y_ELLIPSIS ?y_FLAGS ?x_FLAGS ?y_IGNORE_DETAIL ?y_MARK ?y_NORMALIZE ?y_NO_BLANKLINE ?y_ONE_IS_NOT_TRUE ?y_TRUTHS ?x_TRUTHS ?w_TRUTHS ?h_TRUTHS0_ok ?h_TRUTHS1_ok ?z_bool ?z_enumerate ?z_int ?z_isinstance ?z_len ?z_list ?z_min ?z_range ?z_str ?z_tuple
    (case a0 => k_is)
    (case l0 => k_is)
    (case e0 => k_is)
    (case k0 => k_is)
    (case a1 => k_is)
    (case l1 => k_is)
    (case e1 => k_is)
    (case k1 => k_is)
    (case a2 => k_is)
    (case l2 => k_is)
    (case e2 => k_is)
    (case k2 => k_is)
    (case a3 => k_is)
    (case l3 => k_is)
    (case e3 => k_is)
    (case k3 => k_is)
    (case a4 => k_is)
    (case l4 => k_is)
    (case e4 => k_is)
    (case k4 => k_is)
    (case a5 => k_is)
    (case l5 => k_is)
    (case e5 => k_is)
    (case k5 => k_is)
    (case a6 => k_is)
    (case l6 => k_is)
    (case e6 => k_is)
    (case k6 => k_is)
    (case a7 => k_is)
    (case l7 => k_is)
    (case e7 => k_is)
    (case k7 => k_is)
    (case a8 => k_is)
    (case l8 => k_is)
    (case e8 => k_is)
    (case k8 => k_is)
    (case a9 => k_is)
    (case l9 => k_is)
    (case e9 => k_is)
    (case k9 => k_is)
    (case a10 => k_is)
    (case l10 => k_is)
    (case e10 => k_is)
    (case k10 => k_is)
    (case t10 => k_is)
    (case u10_0 => k_is)
    (case a11 => k_is)
    (case l11 => k_is)
    (case e11 => k_is)
    (case k11 => k_is)
    (case a12 => k_is)
    (case l12 => k_is)
    (case e12 => k_is)
    (case k12 => k_is)
    (case a13 => k_is)
    (case l13 => k_is)
    (case e13 => k_is)
    (case k13 => k_is)
    (case a14 => k_is)
    (case l14 => k_is)
    (case e14 => k_is)
    (case k14 => k_is)
    (case a15 => k_is)
    (case l15 => k_is)
    (case e15 => k_is)
    (case k15 => k_is)
    (case a16 => k_is)
    (case l16 => k_is)
    (case e16 => k_is)
    (case k16 => k_is)
    (case a17 => k_is)
    (case l17 => k_is)
    (case e17 => k_is)
    (case k17 => k_is)
    (case a18 => k_is)
    (case l18 => k_is)
    (case e18 => k_is)
    (case k18 => k_is)
    (case a19 => k_is)
    (case l19 => k_is)
    (case e19 => k_is)
    (case k19 => k_is)
    (case a20 => k_is)
    (case l20 => k_is)
    (case e20 => k_is)
    (case k20 => k_is)
    (case a21 => k_is)
    (case l21 => k_is)
    (case e21 => k_is)
    (case k21 => k_is)
    (case a22 => k_is)
    (case l22 => k_is)
    (case e22 => k_is)
    (case k22 => k_is)
    (case a23 => k_is)
    (case l23 => k_is)
    (case e23 => k_is)
    (case k23 => k_is)
    (case a24 => k_is)
    (case l24 => k_is)
    (case e24 => k_is)
    (case k24 => k_is)
    (case a25 => k_is)
    (case l25 => k_is)
    (case e25 => k_is)
    (case k25 => k_is)
    (case a26 => k_is)
    (case l26 => k_is)
    (case e26 => k_is)
    (case k26 => k_is)
    (case a27 => k_is)
    (case l27 => k_is)
    (case e27 => k_is)
    (case k27 => k_is)
    (case y_BLANKS => k_is)
    (case y_DOTS => k_is)
    (case y_ELLIPSIS => k_is)
    (case y_FLAGS => k_is)
    (case x_FLAGS => k_is)
    (case y_IGNORE_DETAIL => k_is)
    (case y_MARK => k_is)
    (case y_NORMALIZE => k_is)
    (case y_NO_BLANKLINE => k_is)
    (case y_ONE_IS_NOT_TRUE => k_is)
    (case y_TRUTHS => k_is)
    (case x_TRUTHS => k_is)
    (case w_TRUTHS => first | rfl | k_is)
    (case h_TRUTHS0_ok => first | rfl | k_is)
    (case h_TRUTHS1_ok => first | rfl | k_is)
    (case z_bool => k_is)
    (case z_enumerate => k_is)
    (case z_int => k_is)
    (case z_isinstance => k_is)
    (case z_len => k_is)
    (case z_list => k_is)
    (case z_min => k_is)
    (case z_range => k_is)
    (case z_str => k_is)
    (case z_tuple => k_is)

