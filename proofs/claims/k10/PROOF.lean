import PyProof.Rows.All
import Wide.All
import OpenK.AllK
import Wide.FinOn
import HandS.ForMost
import HandS.Flow
import HandS.Defaults
import HandS.Style
import HandS.IsInst
import HandS.StrMore
import HandS.ReplaceList
import HandS.Deep
import HandS.Conv
import HandS.More
import HandS.TupLe
import HandS.FStr
import KE.KUnpackStar
import PyProof.StrBlock2
import PyProof.ToksMono
import PySem.Challenge.RW_promptyard_k10_differences_told
set_option Elab.async false
set_option linter.all false
set_option maxRecDepth 100000
namespace Pq
open PySem L2 TL PyProof.Rows
def top (i : Nat) : Stmt := PySem.Challenge.pw_promptyard_k10_differences_told.main.body.getD i (.Pass ⟨0, 0, 0, 0⟩)
-- def is_flag at top 7
abbrev s_is_flag : Stmt := top 7
theorem sc_is_flag : FnScope ["thing"] ["thing"] (defScope s_is_flag) := ⟨rfl, rfl, rfl, by decide +kernel, rfl, by decide +kernel, by decide +kernel⟩
-- cells []
-- def require_flags at top 8
abbrev s_require_flags : Stmt := top 8
theorem sc_require_flags : FnScope ["flags", "thing"] ["flags"] (defScope s_require_flags) := ⟨rfl, rfl, rfl, by decide +kernel, rfl, by decide +kernel, by decide +kernel⟩
-- cells []
-- def indented at top 11
abbrev s_indented : Stmt := top 11
theorem sc_indented : FnScope ["text", "line"] ["text"] (defScope s_indented) := ⟨rfl, rfl, rfl, by decide +kernel, rfl, by decide +kernel, by decide +kernel⟩
-- cells []
-- def told at top 12
abbrev s_told : Stmt := top 12
theorem sc_told : FnScope ["head", "text"] ["head", "text"] (defScope s_told) := ⟨rfl, rfl, rfl, by decide +kernel, rfl, by decide +kernel, by decide +kernel⟩
-- cells []
-- def blanks_marked at top 13
abbrev s_blanks_marked : Stmt := top 13
theorem sc_blanks_marked : FnScope ["got", "lines", "rest", "line"] ["got"] (defScope s_blanks_marked) := ⟨rfl, rfl, rfl, by decide +kernel, rfl, by decide +kernel, by decide +kernel⟩
-- cells []
-- def difference_text at top 14
abbrev s_difference_text : Stmt := top 14
theorem sc_difference_text : FnScope ["want", "got", "flags", "shown"] ["want", "got", "flags"] (defScope s_difference_text) := ⟨rfl, rfl, rfl, by decide +kernel, rfl, by decide +kernel, by decide +kernel⟩
-- cells []
-- def _law_draws at top 16
abbrev s_law_draws : Stmt := top 16
theorem sc_law_draws : FnScope ["script", "item"] ["script"] (defScope s_law_draws) := ⟨rfl, rfl, rfl, by decide +kernel, rfl, by decide +kernel, by decide +kernel⟩
-- cells []
-- def _law_mixed at top 17
abbrev s_law_mixed : Stmt := top 17
theorem sc_law_mixed : FnScope ["seed", "k", "first"] ["seed", "k"] (defScope s_law_mixed) := ⟨rfl, rfl, rfl, by decide +kernel, rfl, by decide +kernel, by decide +kernel⟩
-- cells []
-- def _law_take at top 18
abbrev s_law_take : Stmt := top 18
theorem sc_law_take : FnScope ["draws", "size", "found", "seed", "reach"] ["draws", "size"] (defScope s_law_take) := ⟨rfl, rfl, rfl, by decide +kernel, rfl, by decide +kernel, by decide +kernel⟩
-- cells []
-- def _law_pick at top 19
abbrev s_law_pick : Stmt := top 19
theorem sc_law_pick : FnScope ["draws", "some"] ["draws", "some"] (defScope s_law_pick) := ⟨rfl, rfl, rfl, by decide +kernel, rfl, by decide +kernel, by decide +kernel⟩
-- cells []
-- def _law_handed at top 20
abbrev s_law_handed : Stmt := top 20
theorem sc_law_handed : FnScope ["draws", "rules", "left", "found"] ["draws", "rules"] (defScope s_law_handed) := ⟨rfl, rfl, rfl, by decide +kernel, rfl, by decide +kernel, by decide +kernel⟩
-- cells []
-- def _law_text at top 21
abbrev s_law_text : Stmt := top 21
theorem sc_law_text : FnScope ["draws", "some", "lines", "k", "line"] ["draws"] (defScope s_law_text) := ⟨rfl, rfl, rfl, by decide +kernel, rfl, by decide +kernel, by decide +kernel⟩
-- cells ['draws', 'some']
-- def _law_moved at top 22
abbrev s_law_moved : Stmt := top 22
theorem sc_law_moved : FnScope ["text", "found", "is_begin", "sign"] ["text"] (defScope s_law_moved) := ⟨rfl, rfl, rfl, by decide +kernel, rfl, by decide +kernel, by decide +kernel⟩
-- cells []
-- def _law_marked at top 23
abbrev s_law_marked : Stmt := top 23
theorem sc_law_marked : FnScope ["text", "found", "line", "sign", "is_bare", "one"] ["text"] (defScope s_law_marked) := ⟨rfl, rfl, rfl, by decide +kernel, rfl, by decide +kernel, by decide +kernel⟩
-- cells []
-- def law at top 24
abbrev s_law : Stmt := top 24
theorem sc_law : FnScope ["script", "draws", "turn", "want", "got", "rules", "shown", "due", "flags"] ["script"] (defScope s_law) := ⟨rfl, rfl, rfl, by decide +kernel, rfl, by decide +kernel, by decide +kernel⟩
-- cells []
def v_FLAGS : List Str := ["DONT_ACCEPT_TRUE_FOR_1", "DONT_ACCEPT_BLANKLINE", "NORMALIZE_WHITESPACE", "ELLIPSIS", "SKIP", "IGNORE_EXCEPTION_DETAIL", "REPORT_ONLY_FIRST_FAILURE", "FAIL_FAST"]

/-! ### small words -/
theorem same_new {H : Hp} {p : Addr} {o : HO} (h : H p = none) : Same H (upd H p o) := fun b x e => by
  rw [upd_ne (ne_of_none e h)]
  exact e
theorem line_of {n : Nat} (h : n ≤ 1000000) : n ≤ sizeLine := Nat.le_trans h (by decide)
/-- a def of the text, as its callers see it -/
structure Own (P : Program) (w : World) (K : PySem.W.Frag) (mg : Str → Option Value) (base : Heap) (x : Str) (k : Nat) (ps : List Str) (dvs : List V) (sp : Sp) : Prop where
  ex : ∃ f fd ds, FnOk P w K mg base CX0 k f fd ps sp ∧ mg x = some (.ref f) ∧ PySem.W.keepIn K (.ref f) = true ∧ Binds K fd ps ds ∧ Vals dvs ds
section
variable {X : Cx} {x : Str} {k : Nat} {ps : List Str} {dvs : List V} {sp : Sp} {e : Expr} {es : List Expr} {t : TA} {p pos : Pos}
theorem Own.mk' {P : Program} {w : World} {K : PySem.W.Frag} {mg : Str → Option Value} {base : Heap} {f : Addr} {fd : FuncData} {ds : List Value} (a : FnOk P w K mg base CX0 k f fd ps sp) (b : mg x = some (.ref f)) (c : PySem.W.keepIn K (.ref f) = true) (d : Binds K fd ps ds) (v : Vals dvs ds) : Own P w K mg base x k ps dvs sp := ⟨_, _, _, a, b, c, d, v⟩
theorem pe_own (O : Own X.prog X.w X.K X.mg X.base x k ps dvs sp) (hr : Room k X.A) (hg : Gl X x) (ha : PA X (e :: es) t) (hdb : (x == ("__debug__" : Str)) = false := by decide) (he : starEach (e :: es) X.env = (false, eval e X.env) :: starEach es X.env := by rfl) (hpl : (backTo pos (starEach es X.env)).any (·.1) = false := by rfl) :
    PE X (.Call (.Name x p) (e :: es) [] pos) (tCall sp dvs E0 t) := by
  obtain ⟨f, fd, ds, F, hm, hk, hb, hd⟩ := O.ex
  exact pe_call F hr hg hm hk hb hd pass0 ha hdb he hpl
theorem pe_own0 (O : Own X.prog X.w X.K X.mg X.base x k ps dvs sp) (hr : Room k X.A) (hg : Gl X x) (hdb : (x == ("__debug__" : Str)) = false := by decide) :
    PE X (.Call (.Name x p) [] [] pos) (tCall sp dvs E0 tNil) := by
  obtain ⟨f, fd, ds, F, hm, hk, hb, hd⟩ := O.ex
  exact pe_call0 F hr hg hm hk hb hd pass0 hdb
/-- a statement, a word about what stands behind it, the rest -/
def tCut (t u : TS) : TS := fun D σ H => ∃ Mid : L2.St → Hp → Prop, t { D with nx := Mid } σ H ∧ ∀ σ' H', Mid σ' H' → u D σ' H'
theorem pss_cut {st : Stmt} {rest : List Stmt} {t u : TS} (h1 : PS X st t) (h2 : PSs X rest u) : PSs X (st :: rest) (tCut t u) := by
  refine ⟨fun pins s σ H D I h => ?_⟩
  obtain ⟨Mid, hm, hu⟩ := h
  refine wpAny_execs_cons (thn (h1.run pins s σ H { D with nx := Mid } I hm) fun f s1 q => ?_)
  cases f with
  | next =>
    obtain ⟨σ', H', I', q⟩ := q
    exact h2.run pins s1 σ' H' D I' (hu σ' H' q)
  | ret v => exact q
  | brk => exact q
  | cont => exact q
end
theorem int_at {ns : List Int} {i : Nat} {x : V} (h : (ns.map V.int)[i]? = some x) : ∃ z, x = V.int z := by
  rw [List.getElem?_map] at h
  cases e : ns[i]? with
  | none =>
    rw [e] at h
    cases h
  | some z =>
    rw [e] at h
    exact ⟨z, (Option.some.inj h).symm⟩

/-! ### steps that want one token out: the judgements of the layer from states with a token -/
section
variable {α : Type} {M : Model} {A : Around} {s : Shared}
theorem thnK {t : Sem α} {Q Q' : α → Shared → Prop} {E : Value → Shared → Prop} (hk : 1 ≤ s.toks) (h : wpAny M A t Q E s) (hQ : ∀ a s', 1 ≤ s'.toks → Q a s' → Q' a s') : wpAny M A t Q' E s :=
  wpAny_mono (PySem.wpAny_toks_of hk h) (fun a s' x => hQ a s' x.1 x.2) fun _ _ x => x.2
end
structure ET (X : Cx) (e : Expr) (t : TE) : Prop where
  run : ∀ (pins : List (Addr × Obj)) (s : Shared) (σ : L2.St) (H : Hp) (Q : VK), 1 ≤ s.toks → Inv X pins σ H s → t σ H Q → wpAny (model X.prog X.w) X.A (eval e X.env) (EP X pins σ Q) X.xe s
structure TT' (X : Cx) (e : Expr) (t : TT) : Prop where
  run : ∀ (pins : List (Addr × Obj)) (s : Shared) (σ : L2.St) (H : Hp) (Q : Bool → Hp → Prop), 1 ≤ s.toks → Inv X pins σ H s → t σ H Q → wpAny (model X.prog X.w) X.A (isTrue e X.env (eval e X.env)) (TP X pins σ Q) X.xe s
structure WT (X : Cx) (e : Expr) (t : TT) : Prop where
  run : ∀ (whole : Sem Value) (pins : List (Addr × Obj)) (s : Shared) (σ : L2.St) (H : Hp) (Q : Bool → Hp → Prop), 1 ≤ s.toks → Inv X pins σ H s → t σ H Q → wpAny (model X.prog X.w) X.A (isTrue e X.env whole) (TP X pins σ Q) X.xe s
structure AT (X : Cx) (es : List Expr) (t : TA) : Prop where
  run : ∀ (pos : Pos) (pins : List (Addr × Obj)) (s : Shared) (σ : L2.St) (H : Hp) (Q : List V → Hp → Prop), 1 ≤ s.toks → Inv X pins σ H s → t σ H Q → wpAny (model X.prog X.w) X.A (spliced (backTo pos (starEach es X.env))) (AP X pins σ Q) X.xe s
structure ST (X : Cx) (st : Stmt) (t : TS) : Prop where
  run : ∀ (pins : List (Addr × Obj)) (s : Shared) (σ : L2.St) (H : Hp) (D : Ends), 1 ≤ s.toks → Inv X pins σ H s → t D σ H → wpAny (model X.prog X.w) X.A (exec st X.env) (SP X pins D) X.xe s
structure BT (X : Cx) (st : List Stmt) (t : TS) : Prop where
  run : ∀ (pins : List (Addr × Obj)) (s : Shared) (σ : L2.St) (H : Hp) (D : Ends), 1 ≤ s.toks → Inv X pins σ H s → t D σ H → wpAny (model X.prog X.w) X.A (execs st X.env) (SP X pins D) X.xe s
/-- the same, and behind it a token is out for sure -/
structure AK (X : Cx) (es : List Expr) (t : TA) : Prop where
  run : ∀ (pos : Pos) (pins : List (Addr × Obj)) (s : Shared) (σ : L2.St) (H : Hp) (Q : List V → Hp → Prop), Inv X pins σ H s → t σ H Q → wpAny (model X.prog X.w) X.A (spliced (backTo pos (starEach es X.env))) (fun us s' => 1 ≤ s'.toks ∧ AP X pins σ Q us s') X.xe s
structure EK (X : Cx) (e : Expr) (t : TE) : Prop where
  run : ∀ (pins : List (Addr × Obj)) (s : Shared) (σ : L2.St) (H : Hp) (Q : VK), Inv X pins σ H s → t σ H Q → wpAny (model X.prog X.w) X.A (eval e X.env) (fun u s' => 1 ≤ s'.toks ∧ EP X pins σ Q u s') X.xe s
structure SK (X : Cx) (st : Stmt) (t : TS) : Prop where
  run : ∀ (pins : List (Addr × Obj)) (s : Shared) (σ : L2.St) (H : Hp) (D : Ends), Inv X pins σ H s → t D σ H → wpAny (model X.prog X.w) X.A (exec st X.env) (fun f s' => 1 ≤ s'.toks ∧ SP X pins D f s') X.xe s
structure BK (X : Cx) (st : List Stmt) (t : TS) : Prop where
  run : ∀ (pins : List (Addr × Obj)) (s : Shared) (σ : L2.St) (H : Hp) (D : Ends), Inv X pins σ H s → t D σ H → wpAny (model X.prog X.w) X.A (execs st X.env) (fun f s' => 1 ≤ s'.toks ∧ SP X pins D f s') X.xe s
structure FnT (P : Program) (w : World) (K : PySem.W.Frag) (mg : Str → Option Value) (base : Heap) (CX : CXT) (k : Nat) (f : Addr) (fd : FuncData) (ps : List Str) (sp : Sp) : Prop where
  len : ∀ vs H Q E, sp vs H Q E → vs.length = ps.length
  run : ∀ (A : Around) (outer : List Env) (s : Shared) (H : Hp) (args : Args) (us : List Value) (vs : List V) (Q : VK) (E : XK), 1 ≤ s.toks → Room k A → Env0 P w K mg base A outer s H → BindsTo s fd args (ps.zip us) → Vals vs us → sp vs H Q E →
    codeAny (model P w) A (.call (.ref f) args) (CR CX outer P w H s Q E) s
structure FnK (P : Program) (w : World) (K : PySem.W.Frag) (mg : Str → Option Value) (base : Heap) (CX : CXT) (k : Nat) (f : Addr) (fd : FuncData) (ps : List Str) (sp : Sp) : Prop where
  len : ∀ vs H Q E, sp vs H Q E → vs.length = ps.length
  run : ∀ (A : Around) (outer : List Env) (s : Shared) (H : Hp) (args : Args) (us : List Value) (vs : List V) (Q : VK) (E : XK), Room k A → Env0 P w K mg base A outer s H → BindsTo s fd args (ps.zip us) → Vals vs us → sp vs H Q E →
    codeAny (model P w) A (.call (.ref f) args) (fun r s' => ((∃ e, r = .error e) ∨ 1 ≤ s'.toks) ∧ CR CX outer P w H s Q E r s') s
structure OwnT (P : Program) (w : World) (K : PySem.W.Frag) (mg : Str → Option Value) (base : Heap) (x : Str) (k : Nat) (ps : List Str) (dvs : List V) (sp : Sp) : Prop where
  ex : ∃ f fd ds, FnT P w K mg base CX0 k f fd ps sp ∧ mg x = some (.ref f) ∧ PySem.W.keepIn K (.ref f) = true ∧ Binds K fd ps ds ∧ Vals dvs ds
structure OwnK (P : Program) (w : World) (K : PySem.W.Frag) (mg : Str → Option Value) (base : Heap) (x : Str) (k : Nat) (ps : List Str) (dvs : List V) (sp : Sp) : Prop where
  ex : ∃ f fd ds, FnK P w K mg base CX0 k f fd ps sp ∧ mg x = some (.ref f) ∧ PySem.W.keepIn K (.ref f) = true ∧ Binds K fd ps ds ∧ Vals dvs ds
section
variable {X : Cx} {a b c e o : Expr} {es rest' : List Expr} {ta tb tc te to : TE} {uA uB uC : TT} {tx : TA} {pos : Pos} {st : Stmt} {rest bd bd' : List Stmt} {t u : TS}
theorem ET.of (h : PE X e te) : ET X e te := ⟨fun pins s σ H Q _ I q => h.run pins s σ H Q I q⟩
theorem TT'.of (h : PT X e uA) : TT' X e uA := ⟨fun pins s σ H Q _ I q => h.run pins s σ H Q I q⟩
theorem WT.of (h : PW X e uA) : WT X e uA := ⟨fun wh pins s σ H Q _ I q => h.run wh pins s σ H Q I q⟩
theorem WT.pt (h : WT X e uA) : TT' X e uA := ⟨h.run _⟩
theorem AT.of (h : PA X es tx) : AT X es tx := ⟨fun pos pins s σ H Q _ I q => h.run pos pins s σ H Q I q⟩
theorem ST.of (h : PS X st t) : ST X st t := ⟨fun pins s σ H D _ I q => h.run pins s σ H D I q⟩
theorem BT.of (h : PSs X bd t) : BT X bd t := ⟨fun pins s σ H D _ I q => h.run pins s σ H D I q⟩
/-- arguments -/
theorem at_cons (ha : ET X e te) (hr : AT X es tx) (hs : starEach (e :: es) X.env = (false, eval e X.env) :: starEach es X.env := by rfl) : AT X (e :: es) (tCons te tx) := by
  refine ⟨fun pos pins s σ H Q hk I h => ?_⟩
  rw [hs]
  show wpAny _ _ (spliced ((false, eval e X.env) :: backTo pos (starEach es X.env))) _ _ s
  refine Calls.spliced_cons (thnK hk (ha.run pins s σ H _ hk I h) fun v s1 k1 ⟨x, H1, I1, r1, q1⟩ => ?_)
  exact thn (hr.run pos pins s1 σ H1 _ k1 I1 q1) fun us s2 ⟨xs, H2, I2, r2, q2⟩ => ⟨x :: xs, H2, I2, .cons r1 r2, q2⟩
theorem at_nil : AT X [] tNil := .of pa_nil
theorem binK (ha : ET X a ta) (hb : ET X b tb) {pins : List (Addr × Obj)} {s : Shared} {σ : L2.St} {H : Hp} {R : V → V → Hp → Prop} (hk : 1 ≤ s.toks) (I : Inv X pins σ H s)
    (h : ta σ H fun x H1 => tb σ H1 fun y H2 => R x y H2) {Q : Value → Shared → Prop} {f : Value → Value → Sem Value}
    (hf : ∀ v u s2 x y H2, Inv X pins σ H2 s2 → RelV x v → RelV y u → R x y H2 → wpAny (model X.prog X.w) X.A (f v u) Q X.xe s2) :
    wpAny (model X.prog X.w) X.A (eval a X.env) (fun v s₁ => wpAny (model X.prog X.w) X.A (eval b X.env) (fun u s₂ => wpAny (model X.prog X.w) X.A (f v u) Q X.xe s₂) X.xe s₁) X.xe s := by
  refine thnK hk (ha.run pins s σ H _ hk I h) fun v s1 k1 ⟨x, H1, I1, r1, q1⟩ => ?_
  refine thn (hb.run pins s1 σ H1 _ k1 I1 q1) fun u s2 ⟨y, H2, I2, r2, q2⟩ => ?_
  exact hf v u s2 x y H2 I2 r1 r2 q2
theorem et_op {op : Operator} {r : R2} (ho : OpR X (binaryOp op) r) (ha : ET X a ta) (hb : ET X b tb) : ET X (.BinOp a op b pos) (tOp r ta tb) :=
  ⟨fun pins s σ H Q hk I h => wpAny_BinOp (binK ha hb hk I h fun v u s2 x y H2 I2 rx ry q => ho pins s2 σ H2 x y v u Q I2 rx ry q)⟩
theorem et_ix {r : R2} (hr : IxR X r) (ha : ET X a ta) (hb : ET X b tb) (hs : PlainIx b) : ET X (.Subscript a b pos) (tOp r ta tb) :=
  ⟨fun pins s σ H Q hk I h => Subscript_ (binK ha hb hk I h fun v u s2 x y H2 I2 rx ry q => hr a b pins s2 σ H2 x y v u Q I2 rx ry q (hs _ _))⟩
theorem et_cmpR {op : CmpOp} {r : R2} (ho : OpR X (compareOp op) r) (ha : ET X a ta) (hb : ET X b tb) (hm : behindInMarks op b = false) : ET X (.Compare a [op] [b] pos) (tOp r ta tb) :=
  ⟨fun pins s σ H Q hk I h => wpAny_Compare1 (binK ha hb hk I h fun v u s2 x y H2 I2 rx ry q => ho pins s2 σ H2 x y v u Q I2 rx ry q) hm⟩
theorem tt_cmpR {op : CmpOp} {r : R2} (ho : OpR X (compareOp op) r) (ha : ET X a ta) (hb : ET X b tb) (hm : behindInMarks op b = false) : TT' X (.Compare a [op] [b] pos) (tTest (tOp r ta tb)) := by
  refine ⟨fun pins s σ H Q hk I h => ?_⟩
  refine wpAny_isTrue_Compare1 (thnK hk (ha.run pins s σ H _ hk I h) fun v s1 k1 ⟨x, H1, I1, r1, q1⟩ => thn (hb.run pins s1 σ H1 _ k1 I1 q1) fun u s2 ⟨y, H2, I2, r2, q2⟩ =>
    thn (ho pins s2 σ H2 x y v u _ I2 r1 r2 q2) fun c s3 ⟨z, H3, I3, r3, k, e, q3⟩ => ?_) hm
  subst e
  cases r3
  exact wpAny_truthy_bool ⟨H3, I3, q3⟩
theorem tt_val (h : ET X e te) (he : ∀ whole, isTrue e X.env whole = (do let v ← whole; standAt e.pos; holding [v] (truthy v)) := by intro _; rfl) : TT' X e (tB te) := by
  refine ⟨fun pins s σ H Q hk I hw => ?_⟩
  refine isTrue_plain (thn (h.run pins s σ H _ hk I hw) fun v s1 ⟨x, H1, I1, r1, q1⟩ => ?_) (he _)
  obtain ⟨k, rfl, q⟩ := q1
  cases r1
  exact wpAny_truthy_bool ⟨H1, I1, q⟩
theorem tt_not (ha : TT' X a uA) : TT' X (.UnaryOp .Not a pos) (tNot uA) :=
  ⟨fun pins s σ H Q hk I h => isTrue_not (ha.run pins s σ H (fun c H1 => Q (!c) H1) hk I h)⟩
theorem wt_and1 (ha : TT' X a uA) : WT X (.BoolOp .And [a] pos) uA := by
  refine ⟨fun wh pins s σ H Q hk I h => ?_⟩
  refine isTrue_and (thn (ha.run pins s σ H Q hk I h) fun c s1 e => ?_)
  cases c with
  | true => exact isTrue_and_nil e
  | false => exact e
theorem wt_or1 (ha : TT' X a uA) : WT X (.BoolOp .Or [a] pos) uA := by
  refine ⟨fun wh pins s σ H Q hk I h => ?_⟩
  refine isTrue_or (thn (ha.run pins s σ H Q hk I h) fun c s1 e => ?_)
  cases c with
  | false => exact isTrue_or_nil e
  | true => exact e
theorem wt_and (ha : TT' X a uA) (hb : WT X (.BoolOp .And (b :: rest') pos) uB) : WT X (.BoolOp .And (a :: b :: rest') pos) (tAnd uA uB) := by
  refine ⟨fun wh pins s σ H Q hk I h => ?_⟩
  refine isTrue_and (thnK hk (ha.run pins s σ H _ hk I h) fun c s1 k1 ⟨H1, I1, q1⟩ => ?_)
  cases c with
  | true => exact hb.run wh pins s1 σ H1 Q k1 I1 q1
  | false => exact ⟨H1, I1, q1⟩
theorem wt_or (ha : TT' X a uA) (hb : WT X (.BoolOp .Or (b :: rest') pos) uB) : WT X (.BoolOp .Or (a :: b :: rest') pos) (tOr uA uB) := by
  refine ⟨fun wh pins s σ H Q hk I h => ?_⟩
  refine isTrue_or (thnK hk (ha.run pins s σ H _ hk I h) fun c s1 k1 ⟨H1, I1, q1⟩ => ?_)
  cases c with
  | true => exact ⟨H1, I1, q1⟩
  | false => exact hb.run wh pins s1 σ H1 Q k1 I1 q1
theorem et_one {op} (h : ET X a ta) : ET X (.BoolOp op [a] pos) ta := ⟨fun pins s σ H Q hk I hw => BoolOp_one (h.run pins s σ H Q hk I hw)⟩
theorem et_and (ha : ET X a ta) (hb : ET X (.BoolOp .And (b :: rest') pos) tb) : ET X (.BoolOp .And (a :: b :: rest') pos) (tAndV ta tb) := by
  refine ⟨fun pins s σ H Q hk I h => ?_⟩
  refine BoolOp_and (thnK hk (ha.run pins s σ H _ hk I h) fun v s1 k1 ⟨x, H1, I1, r1, q1⟩ => ?_)
  obtain ⟨c, rfl, q1⟩ := q1
  cases r1
  refine wpAny_truthy_bool ?_
  cases c with
  | true => exact hb.run pins s1 σ H1 Q k1 I1 q1
  | false => exact ⟨.bl false, H1, I1, rfl, q1⟩
theorem et_or (ha : ET X a ta) (hb : ET X (.BoolOp .Or (b :: rest') pos) tb) : ET X (.BoolOp .Or (a :: b :: rest') pos) (tOrV ta tb) := by
  refine ⟨fun pins s σ H Q hk I h => ?_⟩
  refine BoolOp_or (thnK hk (ha.run pins s σ H _ hk I h) fun v s1 k1 ⟨x, H1, I1, r1, q1⟩ => ?_)
  obtain ⟨c, rfl, q1⟩ := q1
  cases r1
  refine wpAny_truthy_bool ?_
  cases c with
  | false => exact hb.run pins s1 σ H1 Q k1 I1 q1
  | true => exact ⟨.bl true, H1, I1, rfl, q1⟩
theorem et_not (ha : ET X a ta) : ET X (.UnaryOp .Not a pos) (tNotV ta) := by
  refine ⟨fun pins s σ H Q hk I h => ?_⟩
  refine UnaryOp_ (thn (ha.run pins s σ H _ hk I h) fun v s1 ⟨x, H1, I1, r1, q1⟩ => ?_)
  obtain ⟨c, rfl, q1⟩ := q1
  cases r1
  exact not_of (wpAny_truthy_bool ⟨.bl (!c), H1, I1, rfl, q1⟩)
theorem et_ifExp (hc : TT' X c uC) (ha : ET X a ta) (hb : ET X b tb) : ET X (.IfExp c a b pos) (tIf uC ta tb) := by
  refine ⟨fun pins s σ H Q hk I h => ?_⟩
  refine wpAny_IfExp (thnK hk (hc.run pins s σ H _ hk I h) fun d s1 k1 ⟨H1, I1, q1⟩ => ?_)
  cases d with
  | true => exact ha.run pins s1 σ H1 Q k1 I1 q1
  | false => exact hb.run pins s1 σ H1 Q k1 I1 q1
theorem et_tup {x1} (h : AT X es tx) : ET X (.Tuple es x1 pos) (tTup tx) := by
  refine ⟨fun pins s σ H Q hk I hq => ?_⟩
  refine wpAny_Tuple_spliced (thn (h.run pos pins s σ H _ hk I hq) fun us s1 ⟨xs, H1, I1, r, z, q⟩ => ⟨by rw [← r.length]; exact z, ?_⟩)
  have hf : H1 s1.heap.objs.size = none := I1.hok.fresh (Nat.le_refl _)
  refine ⟨.ref s1.heap.objs.size, upd H1 s1.heap.objs.size (.tup xs), I1.laid (t' := s1.toks) (fun b u e => Heap.get?_push_of_some _ e) (Nat.le_refl _) ?_, rfl, q _ hf⟩
  exact ⟨z, us, r, ⟨_, Heap.get?_push_size _ rfl, rfl, _, rfl⟩⟩
theorem et_lst (h : AT X es tx) : ET X (.List es pos) (tLst tx) := by
  refine ⟨fun pins s σ H Q hk I hq => ?_⟩
  refine wpAny_List_spliced (thn (h.run pos pins s σ H _ hk I hq) fun us s1 ⟨xs, H1, I1, r, z, q⟩ => ⟨by rw [← r.length]; exact z, ?_⟩)
  have hf : H1 s1.heap.objs.size = none := I1.hok.fresh (Nat.le_refl _)
  refine ⟨.ref s1.heap.objs.size, upd H1 s1.heap.objs.size (.lst xs), I1.laid (t' := s1.toks) (fun b u e => Heap.get?_push_of_some _ e) (Nat.le_refl _) ?_, rfl, q _ hf⟩
  exact ⟨z, us, 0, r, Heap.get?_push_size _ rfl⟩
/-- a method of a built-in type -/
theorem et_bm {T id : String} {name : Str} {apos cpos : Pos} {r : V → List V → Hp → VK → Prop} (pa : PlainAttrs T) (slot : Slot T name id) (hty : typeOf (.builtin id) = pure (.type "method_descriptor")) (hm : MtR X id r) (ho : ET X o to) (ha : AT X (e :: es) tx)
    (hbase : attributeBase o name X.env (eval o X.env) = eval o X.env := by rfl)
    (hfew : ((backTo cpos (starEach (e :: es) X.env)).all (fun x => !x.1) && (backToKw cpos (keywordEach [] X.env)).all (fun x => x.1.isSome)
      && decide ((e :: es).length + ([] : List Keyword).length + (if ([] : List Keyword).isEmpty then 0 else 1) < 30)) = true := by rfl)
    (hline : (apos.endLine == cpos.line) = true := by rfl) (hs : starEach (e :: es) X.env = (false, eval e X.env) :: starEach es X.env := by rfl) (hplain : (backTo cpos (starEach es X.env)).any (·.1) = false := by rfl) :
    ET X (.Call (.Attribute o name apos) (e :: es) [] cpos) (tBM X.K T r to tx) := by
  refine ⟨fun pins s σ H Q hk I h => ?_⟩
  refine wpAny_Call_method_late hbase hfew hline rfl (thnK hk (ho.run pins s σ H _ hk I h) fun v s1 k1 ⟨x, H1, I1, r1, ty, q1⟩ => ?_)
  obtain ⟨h1, h2⟩ := tyV_is I1 r1 ty
  refine ⟨T, id, pa, slot, hty, h1, h2, ?_⟩
  have hA := ha.run cpos pins s1 σ H1 _ k1 I1 q1
  rw [hs] at hA ⊢
  refine Calls.callWith_builtin (by show (false || (backTo cpos (starEach es X.env)).any (·.1)) = false; rw [hplain] <;> rfl) (Calls.evalArgs_plain ?_)
  exact thn hA fun us s2 ⟨vs, H2, I2, r2, q2⟩ => hm pins s2 σ H2 x vs v us Q I2 r1 r2 q2
/-- statements -/
theorem st_expr (he : ET X e te) (hs : swapsWith e none pos.line X.env = pure false := by rfl) : ST X (.Expr e pos) (tDrop te) :=
  ⟨fun pins s σ H D hk I h => wpAny_Expr_any (thn (he.run pins s σ H _ hk I h) fun v s1 ⟨x, H1, I1, r1, q1⟩ => ⟨σ, H1, I1, q1⟩) I.quiet hs⟩
theorem st_ret (he : ET X e te) : ST X (.Return (some e) pos) (tRet te) :=
  ⟨fun pins s σ H D hk I h => wpAny_Return_some (thn (he.run pins s σ H _ hk I h) fun v s1 ⟨x, H1, I1, r1, q1⟩ => ⟨x, σ, H1, I1, r1, q1⟩)⟩
theorem st_if (hc : TT' X c uC) (ha : BT X bd t) (hb : BT X bd' u) : ST X (.If c bd bd' pos) (tIfS uC t u) := by
  refine ⟨fun pins s σ H D hk I h => ?_⟩
  refine wpAny_If (thnK hk (hc.run pins s σ H _ hk I h) fun d s1 k1 ⟨H1, I1, q1⟩ => ?_)
  cases d with
  | true => exact ha.run pins s1 σ H1 D k1 I1 q1
  | false => exact hb.run pins s1 σ H1 D k1 I1 q1
theorem st_asg {tg : Expr} {g : TG} (he : ET X e te) (hg : PG X tg g) (hs : swapsWithSole [tg] e pos.line X.env = pure false := by rfl) (hw : swappedStores [tg] e X.env = pure none := by rfl)
    (h1 : (assignEach [tg] X.env).map (·.2) = [assign tg X.env] := by rfl) : ST X (.Assign [tg] e pos) (tAsg te g) := by
  refine ⟨fun pins s σ H D hk I h => ?_⟩
  refine wpAny_Assign_stores (thn (he.run pins s σ H _ hk I h) fun v s1 ⟨x, H1, I1, r1, q1⟩ => ?_) hs hw
  rw [h1]
  exact thn (hg.run pins s1 σ H1 x v _ I1 r1 q1) fun _ s2 q => q
theorem st_set {i : Nat} {x : Str} {pos' : Pos} (hN : X.N.Nodup) (hi : X.N[i]? = some x) (hx : Loc X.env.scope x) (he : ET X e te) (hs : swapsWith e (some (.Name x pos')) pos.line X.env = pure false := by rfl) (hf : X.fn x = true ∨ X.env.scope.names.lookup x = some .local := by first | exact .inl rfl | exact .inr rfl | assumption) :
    ST X (.Assign [.Name x pos'] e pos) (tAsg te (gName i)) := by
  refine ⟨fun pins s σ H D hk I h => ?_⟩
  refine wpAny_Assign_Name (thn (he.run pins s σ H _ hk I h) fun v s1 ⟨y, H1, I1, r1, q1⟩ => ?_) hs
  exact store_ok I1 hN hi hx r1 (fun s2 I2 => ⟨_, H1, I2, q1⟩) hf
theorem bt_nil : BT X [] tNext := .of pss_nil
theorem bt_one (h1 : ST X st t) : BT X [st] t := by
  refine ⟨fun pins s σ H D hk I h => ?_⟩
  refine wpAny_execs_cons (thn (h1.run pins s σ H D hk I h) fun f s1 q => ?_)
  cases f with
  | next => exact wpAny_execs_nil q
  | ret v => exact q
  | brk => exact q
  | cont => exact q
theorem bt_cons (h1 : ST X st t) (h2 : BT X rest u) : BT X (st :: rest) (tSeq t u) := by
  refine ⟨fun pins s σ H D hk I h => ?_⟩
  refine wpAny_execs_cons (thnK hk (h1.run pins s σ H { D with nx := u D } hk I h) fun f s1 k1 q => ?_)
  cases f with
  | next =>
    obtain ⟨σ', H', I', q⟩ := q
    exact h2.run pins s1 σ' H' D k1 I' q
  | ret v => exact q
  | brk => exact q
  | cont => exact q
theorem bt_cut (h1 : ST X st t) (h2 : BT X rest u) : BT X (st :: rest) (tCut t u) := by
  refine ⟨fun pins s σ H D hk I h => ?_⟩
  obtain ⟨Mid, hm, hu⟩ := h
  refine wpAny_execs_cons (thnK hk (h1.run pins s σ H { D with nx := Mid } hk I hm) fun f s1 k1 q => ?_)
  cases f with
  | next =>
    obtain ⟨σ', H', I', q⟩ := q
    exact h2.run pins s1 σ' H' D k1 I' (hu σ' H' q)
  | ret v => exact q
  | brk => exact q
  | cont => exact q
/-- behind a statement that gives a token out -/
theorem pssk_cons (h1 : SK X st t) (h2 : BT X rest u) : PSs X (st :: rest) (tSeq t u) := by
  refine ⟨fun pins s σ H D I h => ?_⟩
  refine wpAny_execs_cons (thn (h1.run pins s σ H { D with nx := u D } I h) fun f s1 ⟨k1, q⟩ => ?_)
  cases f with
  | next =>
    obtain ⟨σ', H', I', q⟩ := q
    exact h2.run pins s1 σ' H' D k1 I' q
  | ret v => exact q
  | brk => exact q
  | cont => exact q
theorem st_for {iter tg : Expr} {wi : TI} {g : TG} {tb : TS} (hp : PassesOwn (model X.prog X.w) X.A X.env X.xe) (hc : X.calm = true) (hi : PI X tg iter wi) (hg : PG X tg g) (hb : BT X bd tb)
    (hs : ∀ x, foldedSetIterable iter X.env x = pure x := by intro _; rfl) : ST X (.For tg iter bd [] pos) (tFor wi g tb) := by
  refine ⟨fun pins s σ H D hk I h => ?_⟩
  refine wpAny_For (thnK hk (hi.run pins s σ H _ I h) fun v s1 k1 h1 => thnK k1 h1 fun itv s2 k2 h2 => ?_) hs
  obtain ⟨it, fp, tn, J, H2, e, I2, T, st2, f2, W, ⟨m0, w0⟩, turn⟩ := h2
  subst e
  have stat : ∀ {H' : Hp}, (∀ b ∈ fp, H' b = none) → ∀ b ∈ fp, FpOk X pins H' b := fun hn b hb => ⟨hn b hb, (f2 b hb).2⟩
  refine codeAny_forLoop_any (fun n s' => 1 ≤ s'.toks ∧ ∃ i σ' H', Inv X pins σ' H' s' ∧ tn i s'.heap ∧ (∀ b ∈ fp, H' b = none) ∧ W i n σ' H') ?_ m0 ⟨k2, 0, σ, H2, I2, st2, fun b hb => (f2 b hb).1, w0⟩
  rintro n s3 ⟨k3, i, σ3, H3, I3, st3, fr3, w3⟩
  rcases turn i n σ3 H3 w3 with ⟨stop, qn⟩ | ⟨go, N, hN, step⟩
  · refine wpAny_passesOwn hp (thn (T.done X rfl rfl rfl hc i pins s3 σ3 H3 X.xe I3 (stat fr3) st3 stop) fun r s4 ⟨hr, I4⟩ => ?_)
    subst hr
    exact wpAny_execs_nil ⟨σ3, H3, I4, qn⟩
  · refine wpAny_passesOwn hp (thnK k3 (T.item X rfl rfl rfl hc i pins s3 σ3 H3 X.xe I3 (stat fr3) st3 go) fun r s4 k4 ⟨u, hr, h4⟩ => ?_)
    subst hr
    refine wpAny_passesOwn hp (thnK k4 h4 fun _ s5 k5 ⟨x, H5, I5, r5, y5, st5, fr5⟩ => ?_)
    have I5' := I5.pinned (stat fr5) (T.obj _ _ st5)
    refine wpAny_passesOwn hp (thnK k5 (hg.run _ s5 σ3 H5 x u _ I5' r5 (step x H5 y5)) fun _ s6 k6 ⟨σ6, H6, I6, q6⟩ => ?_)
    refine wpAny_passesOwn hp (thnK k6 (hb.run _ s6 σ6 H6 _ k6 I6 q6) fun f s7 k7 q7 => ?_)
    have again : ∀ {σ7 : L2.St} {H7 : Hp}, Inv X (pins ++ pinsAt fp s5.heap) σ7 H7 s7 → N σ7 H7 → ∃ m, m < n ∧ 1 ≤ s7.toks ∧ ∃ i σ' H', Inv X pins σ' H' s7 ∧ tn i s7.heap ∧ (∀ b ∈ fp, H' b = none) ∧ W i m σ' H' := fun {σ7 H7} I7 n7 => by
      obtain ⟨m', hm, w7⟩ := hN σ7 H7 n7
      refine ⟨m', hm, k7, i + 1, σ7, H7, I7.unpinned, T.keep _ _ _ st5 fun b hb o e => (I7.pin (b, o) (List.mem_append_right _ (List.mem_append_right _ (mem_pinsAt hb e)))).1, fun b hb => ?_, w7⟩
      obtain ⟨o, e, d⟩ := T.obj _ _ st5 b hb
      exact (I7.pin (b, o) (List.mem_append_right _ (List.mem_append_right _ (mem_pinsAt hb e)))).2.1
    cases f with
    | next => obtain ⟨σ7, H7, I7, n7⟩ := q7; exact again I7 n7
    | cont => obtain ⟨σ7, H7, I7, n7⟩ := q7; exact again I7 n7
    | brk => obtain ⟨σ7, H7, I7, q7⟩ := q7; exact ⟨σ7, H7, I7.unpinned, q7⟩
    | ret v => obtain ⟨x7, σ7, H7, I7, r7, q7⟩ := q7; exact ⟨x7, σ7, H7, I7.unpinned, r7, q7⟩
theorem st_while {tb : TS} (hp : PassesOwn (model X.prog X.w) X.A X.env X.xe) (hc : TT' X c uC) (hb : BT X bd tb) : ST X (.While c bd [] pos) (tWhile uC tb) := by
  refine ⟨fun pins s σ H D hk I h => ?_⟩
  obtain ⟨W, ⟨m0, w0⟩, turn⟩ := h
  refine wpAny_While (codeAny_whileLoop (fun n s' => 1 ≤ s'.toks ∧ ∃ σ' H', Inv X pins σ' H' s' ∧ W n σ' H') ?_ m0 ⟨hk, σ, H, I, w0⟩)
  rintro n s1 ⟨k1, σ1, H1, I1, w1⟩
  refine wpAny_passesOwn hp (thnK k1 (hc.run pins s1 σ1 H1 _ k1 I1 (turn n σ1 H1 w1)) fun b s2 k2 ⟨H2, I2, q2⟩ => ?_)
  cases b with
  | true =>
    obtain ⟨N, hN, q2⟩ := q2
    rw [if_pos rfl]
    refine wpAny_passesOwn hp (thnK k2 (hb.run pins s2 σ1 H2 _ k2 I2 q2) fun f s3 k3 q3 => ?_)
    cases f with
    | next =>
      obtain ⟨σ3, H3, I3, n3⟩ := q3
      obtain ⟨m', hm, w3⟩ := hN σ3 H3 n3
      exact ⟨m', hm, k3, σ3, H3, I3, w3⟩
    | cont =>
      obtain ⟨σ3, H3, I3, n3⟩ := q3
      obtain ⟨m', hm, w3⟩ := hN σ3 H3 n3
      exact ⟨m', hm, k3, σ3, H3, I3, w3⟩
    | brk => exact q3
    | ret v => exact q3
  | false =>
    rw [if_neg Bool.false_ne_true]
    exact wpAny_execs_nil ⟨σ1, H2, I2, q2⟩
/-- calls of own defs -/
theorem run_fnT {CX : CXT} {k : Nat} {f : Addr} {fd : FuncData} {ps : List Str} {ds : List Value} {dvs : List V} {sp : Sp} {E : XK} {pins : List (Addr × Obj)} {σ : L2.St} {H : Hp} {s : Shared} {Q : VK} {us : List Value} {vs : List V} (F : FnT X.prog X.w X.K X.mg X.base CX k f fd ps sp) (hr : Room k X.A) (hb : Binds X.K fd ps ds) (hd : Vals dvs ds) (hx : Passes CX X E)
    (hk : 1 ≤ s.toks) (I : Inv X pins σ H s) (r : Vals vs us) (h : sp (vs ++ dvs) H Q E) : wpAny (model X.prog X.w) X.A (call (.ref f) us) (EP X pins σ Q) X.xe s := by
  have r2 : Vals (vs ++ dvs) (us ++ ds) := r.append hd
  have hl : (us ++ ds).length = ps.length := by rw [← r2.length]; exact F.len _ _ _ _ h
  refine wpAny_call (codeAny_mono (F.run X.A X.stack s H ⟨us, []⟩ (us ++ ds) (vs ++ dvs) Q E hk hr I.env0 (hb s us I.kIn hl) r2 h) fun r s' hq => ?_)
  cases r with
  | error e => exact hx pins σ H s e s' I hq
  | ok fl =>
    cases fl with
    | ret u => exact I.after hq
    | next => exact False.elim hq
    | brk => exact False.elim hq
    | cont => exact False.elim hq
theorem run_fnK {CX : CXT} {k : Nat} {f : Addr} {fd : FuncData} {ps : List Str} {ds : List Value} {dvs : List V} {sp : Sp} {E : XK} {pins : List (Addr × Obj)} {σ : L2.St} {H : Hp} {s : Shared} {Q : VK} {us : List Value} {vs : List V} (F : FnK X.prog X.w X.K X.mg X.base CX k f fd ps sp) (hr : Room k X.A) (hb : Binds X.K fd ps ds) (hd : Vals dvs ds) (hx : Passes CX X E)
    (I : Inv X pins σ H s) (r : Vals vs us) (h : sp (vs ++ dvs) H Q E) : wpAny (model X.prog X.w) X.A (call (.ref f) us) (fun u s' => 1 ≤ s'.toks ∧ EP X pins σ Q u s') X.xe s := by
  have r2 : Vals (vs ++ dvs) (us ++ ds) := r.append hd
  have hl : (us ++ ds).length = ps.length := by rw [← r2.length]; exact F.len _ _ _ _ h
  refine wpAny_call (codeAny_mono (F.run X.A X.stack s H ⟨us, []⟩ (us ++ ds) (vs ++ dvs) Q E hr I.env0 (hb s us I.kIn hl) r2 h) fun r s' hq => ?_)
  cases r with
  | error e => exact hx pins σ H s e s' I hq.2
  | ok fl =>
    cases fl with
    | ret u => exact ⟨hq.1.elim (fun ⟨_, z⟩ => nomatch z) _root_.id, I.after hq.2⟩
    | next => exact False.elim hq.2
    | brk => exact False.elim hq.2
    | cont => exact False.elim hq.2
variable {x : Str} {k : Nat} {ps : List Str} {dvs : List V} {sp : Sp} {p : Pos}
theorem et_own (O : OwnT X.prog X.w X.K X.mg X.base x k ps dvs sp) (hr : Room k X.A) (hg : Gl X x) (ha : AT X (e :: es) tx) (hdb : (x == ("__debug__" : Str)) = false := by decide) (he : starEach (e :: es) X.env = (false, eval e X.env) :: starEach es X.env := by rfl) (hpl : (backTo pos (starEach es X.env)).any (·.1) = false := by rfl) :
    ET X (.Call (.Name x p) (e :: es) [] pos) (tCall sp dvs E0 tx) := by
  obtain ⟨f, fd, ds, F, hm, hkp, hb, hd⟩ := O.ex
  refine ⟨fun pins s σ H Q hk I h => ?_⟩
  refine wpAny_Call_Name_kw (ld_glob I hg hm ?_ hdb)
  refine PySem.W.callWith_K (h₀ := X.base) I.ok.mod.kin hkp (thnK hk (ha.run pos pins s σ H _ hk I h) fun us s1 k1 ⟨vs, H1, I1, r, q⟩ => ⟨I1.kIn, ?_⟩) he hpl
  exact run_fnT F hr hb hd pass0 k1 I1 r q
/-- a call of a def without tokens' care, its arguments with it -/
theorem et_ownP (O : Own X.prog X.w X.K X.mg X.base x k ps dvs sp) (hr : Room k X.A) (hg : Gl X x) (ha : AT X (e :: es) tx) (hdb : (x == ("__debug__" : Str)) = false := by decide) (he : starEach (e :: es) X.env = (false, eval e X.env) :: starEach es X.env := by rfl) (hpl : (backTo pos (starEach es X.env)).any (·.1) = false := by rfl) :
    ET X (.Call (.Name x p) (e :: es) [] pos) (tCall sp dvs E0 tx) := by
  obtain ⟨f, fd, ds, F, hm, hkp, hb, hd⟩ := O.ex
  refine ⟨fun pins s σ H Q hk I h => ?_⟩
  refine wpAny_Call_Name_kw (ld_glob I hg hm ?_ hdb)
  refine PySem.W.callWith_K (h₀ := X.base) I.ok.mod.kin hkp (thnK hk (ha.run pos pins s σ H _ hk I h) fun us s1 k1 ⟨vs, H1, I1, r, q⟩ => ⟨I1.kIn, ?_⟩) he hpl
  exact run_fn F hr hb hd pass0 I1 r q
theorem ek_own (O : OwnK X.prog X.w X.K X.mg X.base x k ps dvs sp) (hr : Room k X.A) (hg : Gl X x) (ha : PA X (e :: es) tx) (hdb : (x == ("__debug__" : Str)) = false := by decide) (he : starEach (e :: es) X.env = (false, eval e X.env) :: starEach es X.env := by rfl) (hpl : (backTo pos (starEach es X.env)).any (·.1) = false := by rfl) :
    EK X (.Call (.Name x p) (e :: es) [] pos) (tCall sp dvs E0 tx) := by
  obtain ⟨f, fd, ds, F, hm, hkp, hb, hd⟩ := O.ex
  refine ⟨fun pins s σ H Q I h => ?_⟩
  refine wpAny_Call_Name_kw (ld_glob I hg hm ?_ hdb)
  refine PySem.W.callWith_K (h₀ := X.base) I.ok.mod.kin hkp (thn (ha.run pos pins s σ H _ I h) fun us s1 ⟨vs, H1, I1, r, q⟩ => ⟨I1.kIn, ?_⟩) he hpl
  exact run_fnK F hr hb hd pass0 I1 r q
theorem sk_set {i : Nat} {y : Str} {pos' : Pos} (hN : X.N.Nodup) (hi : X.N[i]? = some y) (hx : Loc X.env.scope y) (he : EK X e te) (hs : swapsWith e (some (.Name y pos')) pos.line X.env = pure false := by rfl) (hf : X.fn y = true ∨ X.env.scope.names.lookup y = some .local := by first | exact .inl rfl | exact .inr rfl | assumption) :
    SK X (.Assign [.Name y pos'] e pos) (tAsg te (gName i)) := by
  refine ⟨fun pins s σ H D I h => ?_⟩
  refine wpAny_Assign_Name (thn (he.run pins s σ H _ I h) fun v s1 ⟨k1, z, H1, I1, r1, q1⟩ => ?_) hs
  exact thnK k1 (store_ok (Q := fun _ s2 => SP X pins D .next s2) I1 hN hi hx r1 (fun s2 I2 => ⟨_, H1, I2, q1⟩) hf) fun _ s2 k2 q => ⟨k2, q⟩
/-- what gives a token out: a written number among the items of a list -/
theorem ek_int {n : Int} {j : Nat} : EK X (.Constant (.int n) j pos) (tC (.int n)) :=
  ⟨fun pins s σ H Q I h => wpAny_Constant_int ⟨Nat.le_add_left 1 _, .int n, H, I.tok _, ⟨_, rfl⟩, h⟩⟩
theorem ak_here (ha : EK X e te) (hr : PA X es tx) (hs : starEach (e :: es) X.env = (false, eval e X.env) :: starEach es X.env := by rfl) : AK X (e :: es) (tCons te tx) := by
  refine ⟨fun pos pins s σ H Q I h => ?_⟩
  rw [hs]
  show wpAny _ _ (spliced ((false, eval e X.env) :: backTo pos (starEach es X.env))) _ _ s
  refine Calls.spliced_cons (thn (ha.run pins s σ H _ I h) fun v s1 ⟨k1, x, H1, I1, r1, q1⟩ => ?_)
  exact thnK k1 (hr.run pos pins s1 σ H1 _ I1 q1) fun us s2 k2 ⟨xs, H2, I2, r2, q2⟩ => ⟨k2, x :: xs, H2, I2, .cons r1 r2, q2⟩
theorem ak_there (ha : PE X e te) (hr : AK X es tx) (hs : starEach (e :: es) X.env = (false, eval e X.env) :: starEach es X.env := by rfl) : AK X (e :: es) (tCons te tx) := by
  refine ⟨fun pos pins s σ H Q I h => ?_⟩
  rw [hs]
  show wpAny _ _ (spliced ((false, eval e X.env) :: backTo pos (starEach es X.env))) _ _ s
  refine Calls.spliced_cons (thn (ha.run pins s σ H _ I h) fun v s1 ⟨x, H1, I1, r1, q1⟩ => ?_)
  exact thn (hr.run pos pins s1 σ H1 _ I1 q1) fun us s2 ⟨k2, xs, H2, I2, r2, q2⟩ => ⟨k2, x :: xs, H2, I2, .cons r1 r2, q2⟩
theorem ek_lst (h : AK X es tx) : EK X (.List es pos) (tLst tx) := by
  refine ⟨fun pins s σ H Q I hq => ?_⟩
  refine wpAny_List_spliced (thn (h.run pos pins s σ H _ I hq) fun us s1 ⟨k1, xs, H1, I1, r, z, q⟩ => ⟨by rw [← r.length]; exact z, ?_⟩)
  have hf : H1 s1.heap.objs.size = none := I1.hok.fresh (Nat.le_refl _)
  refine ⟨k1, .ref s1.heap.objs.size, upd H1 s1.heap.objs.size (.lst xs), I1.laid (t' := s1.toks) (fun b u e => Heap.get?_push_of_some _ e) (Nat.le_refl _) ?_, rfl, q _ hf⟩
  exact ⟨z, us, 0, r, Heap.get?_push_size _ rfl⟩
theorem sk_ret (he : EK X e te) : SK X (.Return (some e) pos) (tRet te) :=
  ⟨fun pins s σ H D I h => wpAny_Return_some (thn (he.run pins s σ H _ I h) fun v s1 ⟨k1, x, H1, I1, r1, q1⟩ => ⟨k1, x, σ, H1, I1, r1, q1⟩)⟩
theorem bk_one (h1 : SK X st t) : BK X [st] t := by
  refine ⟨fun pins s σ H D I h => ?_⟩
  refine wpAny_execs_cons (thn (h1.run pins s σ H D I h) fun f s1 ⟨k1, q⟩ => ?_)
  cases f with
  | next => exact wpAny_execs_nil ⟨k1, q⟩
  | ret v => exact ⟨k1, q⟩
  | brk => exact ⟨k1, q⟩
  | cont => exact ⟨k1, q⟩
end

/-! ### defs by their bodies: plain, from states with a token, giving one out -/
theorem BT.nox {X : Cx} {st : List Stmt} {t : TS} (h : BT X.nox st t) : BT X st t := ⟨fun pins s σ H D hk I hw =>
  wpAny_mono (h.run pins s σ H D hk (I.wish _) hw) (fun _ _ q => q.unwish) fun _ _ z => False.elim z⟩
theorem BK.nox {X : Cx} {st : List Stmt} {t : TS} (h : BK X.nox st t) : BK X st t := ⟨fun pins s σ H D I hw =>
  wpAny_mono (h.run pins s σ H D (I.wish _) hw) (fun _ _ q => ⟨q.1, q.2.unwish⟩) fun _ _ z => False.elim z⟩
abbrev Fn (K : PySem.W.Frag) (x : Str) (st : Stmt) (dvs : List V) (f : Addr) (fd : FuncData) : Prop := FunD K x x (defArgs st) (defBody st) (defScope st) dvs [] f fd
section
variable {P : Program} {w : World} {K : PySem.W.Frag} {mg : Str → Option Value} {base : Heap} {x : Str} {st : Stmt} {dvs : List V} {f : Addr} {fd : FuncData} {N ps : List Str} {k : Nat} {sp : Sp}
theorem Fn.mk' {oc dV kV doc pm cdv ct : Value} {od an : Option Addr} {osl : Array (Option Value)} (l : K.lookup f = some ⟨oc, od, .func (PySem.W.fnOf x x (defArgs st) (defBody st) (defScope st) dV kV doc pm an cdv ct), osl⟩)
    (c : PySem.W.codeIn K cdv x = true) (h : PySem.W.keepIn K (.ref f) = true) (d : DflV K dV dvs) : Fn K x st dvs f (PySem.W.fnOf x x (defArgs st) (defBody st) (defScope st) dV kV doc pm an cdv ct) :=
  ⟨⟨oc, od, dV, kV, doc, pm, an, cdv, ct, osl, rfl, l, c, d, .inl rfl⟩, h⟩
theorem Fn.okN (F : Fn K x st dvs f fd) (S : FnScope N ps (defScope st)) (len : ∀ vs H Q E, sp vs H Q E → vs.length = ps.length)
    (hbody : ∀ (cdv : Value) (A : Around) (outer : List Env) (s : Shared) (H : Hp) (vs : List V) (Q : VK) (E : XK), Room k (A.deeper (envOfC x (defScope st) s.heap.objs.size f cdv)) → sp vs H Q E →
      ∃ t, PSs (cxOf CX0 P w K mg base N x (defScope st) f cdv A outer s H E).nox (defBody st) t ∧ t { nx := fun _ H' => Q .non H', rt := Q } (start N vs) H) : FnOk P w K mg base CX0 (k + 1) f fd ps sp :=
  FunD.ok F S len fun cdv A outer s H vs Q E hr hsp => by
    obtain ⟨t, h, q⟩ := hbody cdv A outer s H vs Q E hr hsp
    exact ⟨t, h.nox, q⟩
theorem Fn.okT (F : Fn K x st dvs f fd) (S : FnScope N ps (defScope st)) (len : ∀ vs H Q E, sp vs H Q E → vs.length = ps.length)
    (hbody : ∀ (cdv : Value) (A : Around) (outer : List Env) (s : Shared) (H : Hp) (vs : List V) (Q : VK) (E : XK), Room k (A.deeper (envOfC x (defScope st) s.heap.objs.size f cdv)) → sp vs H Q E →
      ∃ t, BT (cxOf CX0 P w K mg base N x (defScope st) f cdv A outer s H E).nox (defBody st) t ∧ t { nx := fun _ H' => Q .non H', rt := Q } (start N vs) H) : FnT P w K mg base CX0 (k + 1) f fd ps sp := by
  obtain ⟨oc, od, dV, kV, doc, pm, an, cdv, ct, osl, rfl, lk, hcd, _, _⟩ := F.ex
  refine ⟨len, fun A outer s H args us vs Q E hk hr e0 hb r hsp => ?_⟩
  have hl := len _ _ _ _ hsp
  have KX : K.In s.heap := e0.mod.kin.keeps fun b o e => (e0.bs b o e).1
  have lim : s.heap.NoLimit := e0.mod.nolimit.keeps fun b o e => (e0.bs b o e).1
  have hkind : ∀ y ∈ ps.zip us, (defScope st).names.lookup y.1 = some .local ∨ ((defScope st).names.lookup y.1 = some .cell ∧ ((cellsFrom (s.heap.objs.size + 1) (defScope st).names []).lookup y.1).isSome = true) := fun ⟨n, v⟩ hy => by
    rcases S.par n (List.of_mem_zip hy).1 with q | q
    · exact .inl q
    · exact .inr ⟨q, PySem.W.cellsFrom_some _ _ _ (.inl q)⟩
  refine codeAny_call_function hr.depth (KX _ _ lk) rfl S.co S.gen rfl (PySem.W.codeRec_of KX hcd) (hb _ _ _ _ ?_)
  refine PySem.wpAny_with_toks hk ?_
  refine wpAny_newFunctionEnv_cells S.kind hkind fun env he s1 xx => ?_
  intro k1
  subst he
  refine ⟨lim.keeps xx.toInCall.keep, codeAny_func ?_⟩
  obtain ⟨t, ht, hq⟩ := hbody cdv A outer s H vs Q E (hr.deeper _) hsp
  have I : Inv (cxOf CX0 P w K mg base N x (defScope st) f cdv A outer s H E) [] (start N vs) H s1 := inv_start S hr.hd e0 hl r xx
  refine wpAny_mono (ht.nox.run [] s1 (start N vs) H _ k1 I hq) (fun fl s' hs => ?_) fun e s' hs => hs
  have fin : ∀ {σ' : L2.St} {H' : Hp} {v : V} {u : Value}, Inv (cxOf CX0 P w K mg base N x (defScope st) f cdv A outer s H E) [] σ' H' s' → RelV v u → Q v H' → CE outer P w H s Q u s' :=
    fun {σ' H' v u} J rv q => ⟨v, H', J.os, J.bare, J.base, J.hok, rv, q⟩
  cases fl with
  | ret u =>
    obtain ⟨v, σ', H', J, rv, q⟩ := hs
    exact fin J rv q
  | next =>
    obtain ⟨σ', H', J, q⟩ := hs
    exact fin (v := V.non) (u := Value.none) J rfl q
  | brk =>
    obtain ⟨_, _, _, q⟩ := hs
    exact False.elim q
  | cont =>
    obtain ⟨_, _, _, q⟩ := hs
    exact False.elim q
theorem Fn.okK (F : Fn K x st dvs f fd) (S : FnScope N ps (defScope st)) (len : ∀ vs H Q E, sp vs H Q E → vs.length = ps.length)
    (hbody : ∀ (cdv : Value) (A : Around) (outer : List Env) (s : Shared) (H : Hp) (vs : List V) (Q : VK) (E : XK), Room k (A.deeper (envOfC x (defScope st) s.heap.objs.size f cdv)) → sp vs H Q E →
      ∃ t, BK (cxOf CX0 P w K mg base N x (defScope st) f cdv A outer s H E).nox (defBody st) t ∧ t { nx := fun _ H' => Q .non H', rt := Q } (start N vs) H) : FnK P w K mg base CX0 (k + 1) f fd ps sp := by
  obtain ⟨oc, od, dV, kV, doc, pm, an, cdv, ct, osl, rfl, lk, hcd, _, _⟩ := F.ex
  refine ⟨len, fun A outer s H args us vs Q E hr e0 hb r hsp => ?_⟩
  have hl := len _ _ _ _ hsp
  have KX : K.In s.heap := e0.mod.kin.keeps fun b o e => (e0.bs b o e).1
  have lim : s.heap.NoLimit := e0.mod.nolimit.keeps fun b o e => (e0.bs b o e).1
  have hkind : ∀ y ∈ ps.zip us, (defScope st).names.lookup y.1 = some .local ∨ ((defScope st).names.lookup y.1 = some .cell ∧ ((cellsFrom (s.heap.objs.size + 1) (defScope st).names []).lookup y.1).isSome = true) := fun ⟨n, v⟩ hy => by
    rcases S.par n (List.of_mem_zip hy).1 with q | q
    · exact .inl q
    · exact .inr ⟨q, PySem.W.cellsFrom_some _ _ _ (.inl q)⟩
  refine codeAny_call_function hr.depth (KX _ _ lk) rfl S.co S.gen rfl (PySem.W.codeRec_of KX hcd) (hb _ _ _ _ ?_)
  refine wpAny_newFunctionEnv_cells S.kind hkind fun env he s1 xx => ?_
  subst he
  refine ⟨lim.keeps xx.toInCall.keep, codeAny_func ?_⟩
  obtain ⟨t, ht, hq⟩ := hbody cdv A outer s H vs Q E (hr.deeper _) hsp
  have I : Inv (cxOf CX0 P w K mg base N x (defScope st) f cdv A outer s H E) [] (start N vs) H s1 := inv_start S hr.hd e0 hl r xx
  refine wpAny_mono (ht.nox.run [] s1 (start N vs) H _ I hq) (fun fl s' hs => ?_) fun e s' hs => ?_
  · obtain ⟨kk, hs⟩ := hs
    have fin : ∀ {σ' : L2.St} {H' : Hp} {v : V} {u : Value}, Inv (cxOf CX0 P w K mg base N x (defScope st) f cdv A outer s H E) [] σ' H' s' → RelV v u → Q v H' → ((∃ e : Value, (Except.ok (Flow.ret u) : Result) = .error e) ∨ 1 ≤ s'.toks) ∧ CE outer P w H s Q u s' :=
      fun {σ' H' v u} J rv q => ⟨.inr kk, v, H', J.os, J.bare, J.base, J.hok, rv, q⟩
    cases fl with
    | ret u =>
      obtain ⟨v, σ', H', J, rv, q⟩ := hs
      exact fin J rv q
    | next =>
      obtain ⟨σ', H', J, q⟩ := hs
      have z := fin (v := V.non) (u := Value.none) J rfl q
      exact ⟨.inr kk, z.2⟩
    | brk =>
      obtain ⟨_, _, _, q⟩ := hs
      exact False.elim q
    | cont =>
      obtain ⟨_, _, _, q⟩ := hs
      exact False.elim q
  · exact wpAny_mono hs (fun _ _ z => ⟨.inl ⟨_, rfl⟩, z⟩) (fun _ _ z => ⟨.inl ⟨_, rfl⟩, z⟩)
end

/-! ### further rules: text.replace of written texts, get of a written dict, in a tuple of data -/
section
variable {X : Cx} {o e : Expr} {to te : TE}
def tRepl (y z : Str) (to : TE) : TE := fun σ H Q => to σ H fun x H1 => ∃ a : Str, x = .str a ∧ a.length + (a.length + 1) * z.length ≤ 16777216 ∧ Q (.str (Txt.replace a y z)) H1
theorem et_repl {y z : Str} {j0 j1 : Nat} {c0 c1 apos pos : Pos} (ho : ET X o to) (hyz : (y == z) = false) (hst : starEach [.Constant (.str y) j0 c0, .Constant (.str z) j1 c1] X.env = [(false, eval (.Constant (.str y) j0 c0) X.env), (false, eval (.Constant (.str z) j1 c1) X.env)] := by rfl)
    (hbase : attributeBase o "replace" X.env (eval o X.env) = eval o X.env := by rfl) (hline : (apos.endLine == pos.line) = true := by rfl) :
    ET X (.Call (.Attribute o "replace" apos) [.Constant (.str y) j0 c0, .Constant (.str z) j1 c1] [] pos) (tRepl y z to) := by
  refine ⟨fun pins s σ H Q hk I h => ?_⟩
  refine PySem.Call_method2 hbase hst hline (thnK hk (ho.run pins s σ H _ hk I h) fun v s1 k1 ⟨x, H1, I1, r1, a, ex, hb, q⟩ => ?_)
  subst ex
  obtain ⟨tx, rfl⟩ := r1
  refine ⟨"str", _, PySem.F.plainAttrs_str, PySem.F.slot_str_replace, PySem.F.type_str_replace, typeIs_str _ _ _, (fun _ e => nomatch e), Calls.callWith_builtin rfl (Calls.evalArgs_plain (Calls.spliced_cons (Calls.Constant_str (Calls.spliced_cons (Calls.Constant_str (Calls.spliced_nil ?_))))))⟩
  exact PySem.SC.replace (show s1.toks ≠ 0 by omega) (show s1.toks + 1 ≠ 0 by omega) (show s1.toks ≠ s1.toks + 1 by omega) hyz hb fun t' k => ⟨.str (Txt.replace a y z), H1, I1.tok k, ⟨t', rfl⟩, q⟩
/-- d.get(key) of a written dict with text keys -/
def tKGet (K : PySem.W.Frag) (d : Addr) (to te : TE) : TE := fun σ H Q => to σ H fun x H1 => x = .ref d ∧ te σ H1 fun y H2 => ∃ (z : Str) (r : Option Value) (v : V), y = .str z ∧ PySem.W.nsIn K d z = some r ∧ RelV v (r.getD .none) ∧ Q v H2
theorem pe_kget {d : Addr} {es : Array DictEntry} {n : Nat} {apos cpos : Pos} (D : KDict X.K X.w d es n) (ho : PE X o to) (he : PE X e te) (m : M1 X o "get" apos e cpos) : PE X (.Call (.Attribute o "get" apos) [e] [] cpos) (tKGet X.K d to te) := by
  refine ⟨fun pins s σ H Q I h => ?_⟩
  refine wpAny_Call_method m.base m.few m.line PySem.F.plainAttrs_dict PySem.F.slot_dict_get PySem.F.type_dict_get (thn (ho.run pins s σ H _ I h) fun u s1 ⟨x, H1, I1, rx, ex, q1⟩ => ?_)
  subst ex
  obtain rfl : u = Value.ref d := rx
  refine ⟨kd_type D I1, fun a ea => ?_, ?_⟩
  · cases ea
    exact ⟨_, I1.kIn _ _ D.at_, rfl⟩
  rw [m.trees]
  refine Calls.callWith_builtin rfl (Calls.evalArgs_plain (Calls.spliced_cons (thn (he.run pins s1 σ H1 _ I1 q1) fun iv s2 ⟨y, H2, I2, ry, z, r, v, ey, e, rv, q2⟩ => Calls.spliced_nil ?_)))
  subst ey
  obtain ⟨t, rfl⟩ := ry
  refine call_meetsIn PySem.F.slot_dict_get (kd_type D I2) PySem.F.entry_dict_get (PySem.F.args_dict_get_2 _ _) (meets_dict_get (PySem.strKind X.prog X.w) d (PySem.strKind_is X.prog X.w z t) D.low) ⟨_, PySem.W.mapOf_K (prog := X.prog) I2.kIn D.at_ D.lit, ?_⟩
  rw [PySem.W.find_K D.at_ e]
  exact ⟨v, H2, I2.tok _, rv, q2⟩
/-- x in (.., ..), the items data of any depth -/
def rInT (K : PySem.W.Frag) : R2 := fun x y H Q => ∃ d ds, Dp K H x d ∧ Dp K H y (.tuple ds) ∧ SeqAt.shaped d = true ∧ SeqAt.shaped (.tuple ds) = true ∧ d.depth ≤ 60 ∧ Q (.bl (ds.any fun z => PyData.eqv z d)) H
theorem op_inT (hu : X.A.units + 64 < cLine) : OpR X (compareOp .In) (rInT X.K) := by
  intro pins s σ H x y v u Q I rx ry h
  obtain ⟨d, ds, hd, he, sd, se, dl, q⟩ := h
  obtain ⟨as, r1⟩ := Dp.reads I d x v hd rx
  obtain ⟨bs, r2⟩ := Dp.reads I (.tuple ds) y u he ry
  exact SeqAt.in_tuple_reads r2 r1 (SeqAt.canLay_of_shaped se) (SeqAt.canLay_of_shaped sd) (by omega) ⟨.bl _, H, I, rfl, q⟩
end
section
variable {X : Cx} {a : Expr} {ta : TE}
def tTr (K' : PySem.W.Frag) (ta : TE) : TT := fun σ H Q => ta σ H fun x H1 => ∃ k, TruV K' x H1 k ∧ Q k H1
theorem pt_tr {K' : PySem.W.Frag} (ha : PE X a ta) (hK : X.K = K' := by rfl) (he : ∀ whole, isTrue a X.env whole = (do let v ← whole; standAt a.pos; holding [v] (truthy v)) := by intro _; rfl) : PT X a (tTr K' ta) := by
  subst hK
  exact pt_truth ha he
end

/-! ### the mathematics of the stages, over lists of signs -/
/-- nothing but blanks -/
def isBlank (l : List Nat) : Bool := l.all fun c => c == 32 || c == 9
def MK : List Nat := [60, 66, 76, 65, 78, 75, 76, 73, 78, 69, 62]
def isMark (l : List Nat) : Bool := pre MK l && isBlank (l.drop 11)
def marksOf (w : List Nat) : List Nat := joinL [10] ((spl [10] 0 [] w).map fun l => if isMark l then [] else l)
def blanksOf (g : List Nat) : List Nat := joinL [10] ((spl [10] 0 [] g).map fun l => if isBlank l then [] else l)
def wordsOf (t : List Nat) : List Nat := joinL [32] ((spl [32] 0 [] (t.map fun c => if c == 9 || c == 10 then 32 else c)).filter fun w => !w.isEmpty)
theorem emptyEq (l : List Nat) : l.isEmpty = (l.length == 0) := by cases l <;> rfl

theorem joinL_len (S : List Nat) : ∀ {ps : List (List Nat)}, ps ≠ [] → (joinL S ps).length + S.length = (ps.map (·.length)).sum + ps.length * S.length
  | [], h => absurd rfl h
  | [p], _ => by
    show p.length + S.length = p.length + 0 + (0 + 1) * S.length
    omega
  | p :: q :: r, _ => by
    have ih := joinL_len S (ps := q :: r) (by simp)
    show (p ++ (S ++ joinL S (q :: r))).length + S.length = p.length + ((q :: r).map (·.length)).sum + ((q :: r).length + 1) * S.length
    rw [List.length_append, List.length_append, Nat.succ_mul]
    omega
theorem spl_ne (S : List Nat) : ∀ (k : Nat) (acc l : List Nat), spl S k acc l ≠ []
  | k, acc, [] => by rw [spl_nil]; simp
  | 0, acc, c :: r => by
    cases h : pre S (c :: r) with
    | true => rw [spl_hit h]; simp
    | false => rw [spl_miss h]; exact spl_ne S 0 _ r
  | k + 1, acc, _ :: r => spl_ne S k acc r
theorem small_kind {y : List Nat} (h : y.all (· < 256) = true) (x : Str) : ¬ Builtin.Str.strKind x < Builtin.Str.strKind ⟨y.toArray⟩ := kind_ok (by simpa using h)
theorem splitOf (x : Str) {y : List Nat} (hy : y ≠ []) (h : y.all (· < 256) = true) : (Txt.split x ⟨y.toArray⟩).map tl = spl y 0 [] (tl x) := split_spl x ⟨y.toArray⟩ hy (small_kind h x)
theorem joinL_spl (l : List Nat) {y : List Nat} (hy : y ≠ []) (h : y.all (· < 256) = true) : joinL y (spl y 0 [] l) = l := by
  have e := StrLaws.join_split (⟨l.toArray⟩ : Str) ⟨y.toArray⟩
  have e2 := congrArg tl e
  rw [tl_join, splitOf _ hy h] at e2
  exact e2
/-- of the parts: how long they are together, and how many -/
theorem spl_sizes (l : List Nat) {y : List Nat} (hy : y ≠ []) (h : y.all (· < 256) = true) : ((spl y 0 [] l).map (·.length)).sum ≤ l.length ∧ (spl y 0 [] l).length ≤ l.length + 1 := by
  have e := joinL_len y (spl_ne y 0 [] l)
  rw [joinL_spl l hy h] at e
  have hp : 1 ≤ y.length := List.length_pos_iff.mpr hy
  have hn : 1 ≤ (spl y 0 [] l).length := List.length_pos_iff.mpr (spl_ne y 0 [] l)
  generalize (spl y 0 [] l).length = n at e hn
  generalize ((spl y 0 [] l).map (·.length)).sum = s at e
  obtain ⟨m, rfl⟩ : ∃ m, n = m + 1 := ⟨n - 1, by omega⟩
  rw [Nat.succ_mul] at e
  have hm : m ≤ m * y.length := Nat.le_mul_of_pos_right m hp
  omega
theorem sum_map_le {α : Type} (f g : α → Nat) : ∀ (l : List α), (∀ x ∈ l, f x ≤ g x) → (l.map f).sum ≤ (l.map g).sum
  | [], _ => Nat.le_refl _
  | x :: r, h => by
    have h1 := h x (List.mem_cons_self ..)
    have h2 := sum_map_le f g r fun y hy => h y (List.mem_cons_of_mem _ hy)
    rw [List.map_cons, List.map_cons, List.sum_cons, List.sum_cons]
    omega
theorem map_lines_len (f : List Nat → List Nat) (hf : ∀ l, (f l).length ≤ l.length) (l : List Nat) {y : List Nat} (hy : y ≠ []) (h : y.all (· < 256) = true) : (joinL y ((spl y 0 [] l).map f)).length ≤ l.length := by
  have e := joinL_len y (spl_ne y 0 [] l)
  rw [joinL_spl l hy h] at e
  have e2 := joinL_len y (ps := (spl y 0 [] l).map f) (by simpa using spl_ne y 0 [] l)
  rw [List.length_map, List.map_map] at e2
  have e3 := sum_map_le (fun x => (f x).length) (fun x => x.length) (spl y 0 [] l) fun x _ => hf x
  have e4 : ((spl y 0 [] l).map ((fun x => x.length) ∘ f)).sum = ((spl y 0 [] l).map fun x => (f x).length).sum := rfl
  omega
theorem marks_len (w : List Nat) : (marksOf w).length ≤ w.length := map_lines_len _ (fun l => by split <;> simp) w (by simp) (by decide)
theorem blanks_len (w : List Nat) : (blanksOf w).length ≤ w.length := map_lines_len _ (fun l => by split <;> simp) w (by simp) (by decide)
theorem filter_sum (p : List Nat → Bool) : ∀ ps : List (List Nat), ((ps.filter p).map (·.length)).sum ≤ (ps.map (·.length)).sum
  | [] => Nat.le_refl _
  | x :: r => by
    have ih := filter_sum p r
    rw [List.filter_cons]
    split
    · rw [List.map_cons, List.map_cons, List.sum_cons, List.sum_cons]
      omega
    · rw [List.map_cons, List.sum_cons]
      omega
theorem words_len (t : List Nat) : (wordsOf t).length ≤ t.length := by
  unfold wordsOf
  generalize hu : (t.map fun c => if c == 9 || c == 10 then 32 else c) = u
  have lu : u.length = t.length := by rw [← hu, List.length_map]
  have e := joinL_len [32] (spl_ne [32] 0 [] u)
  rw [joinL_spl u (by simp) (by decide)] at e
  have l1 : ([32] : List Nat).length = 1 := rfl
  generalize hq : (spl [32] 0 [] u).filter (fun w => !w.isEmpty) = q
  have hs : (q.map (·.length)).sum ≤ ((spl [32] 0 [] u).map (·.length)).sum := by rw [← hq]; exact filter_sum _ _
  have hl : q.length ≤ (spl [32] 0 [] u).length := by rw [← hq]; exact List.length_filter_le _ _
  cases q with
  | nil => exact Nat.zero_le _
  | cons a r =>
    have e2 := joinL_len [32] (ps := a :: r) (by simp)
    rw [l1] at e e2
    omega

/-! ### stripping leaves nothing just of a blank text -/
theorem strip_blank (x : Str) (goes : Nat → Bool) : ((Txt.stripBy goes true true x).length = 0) ↔ (tl x).all goes = true := by
  rw [stripBy_eq]
  obtain ⟨h1, h2, h3⟩ := lo_facts goes x
  obtain ⟨g1, g2, g3, g4⟩ := hi_facts goes x (stripLo goes true x) h1
  have hl : (Builtin.Str.strSub x (stripLo goes true x) (stripHi goes true x (stripLo goes true x))).length = stripHi goes true x (stripLo goes true x) - stripLo goes true x := by
    rw [len_tl, tl_strSub, List.length_take, List.length_drop, ← len_tl]
    omega
  rw [hl]
  have get : ∀ k, k < x.length → x.cps.getD k 0 ∈ tl x := fun k hk => by
    have hk' : k < x.cps.size := hk
    simp [tl, Array.getD, hk']
  constructor
  · intro h
    rw [List.all_eq_true]
    intro c hc
    obtain ⟨k, hk, e⟩ := List.getElem_of_mem hc
    have hkx : k < x.length := by rw [len_tl]; exact hk
    have e2 : x.cps.getD k 0 = c := by
      have hk' : k < x.cps.size := hkx
      rw [← e]
      simp [tl, Array.getD, hk']
    rw [← e2]
    by_cases hk2 : k < stripLo goes true x
    · exact h2 k hk2
    · exact g3 k (by omega) hkx
  · intro h
    rw [List.all_eq_true] at h
    rcases h3 with e | e
    · omega
    · by_cases hlt : stripLo goes true x < x.length
      · rw [h _ (get _ hlt)] at e
        cases e
      · omega
theorem blank_strip (x : Str) : ((Txt.stripChars x ⟨#[32, 9]⟩).length = 0) ↔ isBlank (tl x) = true := by
  unfold Txt.stripChars
  rw [strip_blank]
  unfold isBlank
  have e : (fun c => (#[32, 9] : Array Nat).contains c) = fun c => (c == 32 || c == 9) := by
    funext c
    rw [Bool.eq_iff_iff, Array.contains_iff_mem]
    simp
  show (tl x).all (fun c => (#[32, 9] : Array Nat).contains c) = true ↔ _
  rw [e]
theorem starts_pre (x : Str) {y : List Nat} (hy : y ≠ []) : Txt.startswith x ⟨y.toArray⟩ = pre y (tl x) := by
  unfold Txt.startswith
  rw [Nat.zero_add]
  have h := at_iff (x := x) (y := ⟨y.toArray⟩) hy 0
  rw [List.drop_zero] at h
  unfold StrLaws.At at h
  rw [Nat.zero_add] at h
  rw [Bool.eq_iff_iff, Bool.and_eq_true, decide_eq_true_eq]
  exact h

/-! ### the pieces of an ellipsis, in order -/
/-- the first place from a on, among n, at which p holds -/
def firstFrom (p : Nat → Bool) : Nat → Nat → Option Nat
  | 0, _ => none
  | n + 1, a => if p a = true then some a else firstFrom p n (a + 1)
theorem firstFrom_some {p : Nat → Bool} : ∀ {n a i : Nat}, firstFrom p n a = some i → a ≤ i ∧ i < a + n ∧ p i = true ∧ ∀ k, a ≤ k → k < i → p k = false
  | 0, a, i, h => by cases h
  | n + 1, a, i, h => by
    unfold firstFrom at h
    by_cases hp : p a = true
    · rw [if_pos hp] at h
      cases h
      exact ⟨Nat.le_refl _, by omega, hp, fun k h1 h2 => by omega⟩
    · rw [if_neg hp] at h
      obtain ⟨h1, h2, h3, h4⟩ := firstFrom_some h
      refine ⟨by omega, by omega, h3, fun k k1 k2 => ?_⟩
      by_cases e : k = a
      · rw [e]
        cases z : p a with
        | true => exact absurd z hp
        | false => rfl
      · exact h4 k (by omega) k2
theorem firstFrom_none {p : Nat → Bool} : ∀ {n a : Nat}, firstFrom p n a = none → ∀ i, a ≤ i → i < a + n → p i = false
  | 0, a, _, i, h1, h2 => by omega
  | n + 1, a, h, i, h1, h2 => by
    unfold firstFrom at h
    by_cases hp : p a = true
    · rw [if_pos hp] at h
      cases h
    · rw [if_neg hp] at h
      by_cases e : i = a
      · rw [e]
        cases z : p a with
        | true => exact absurd z hp
        | false => rfl
      · exact firstFrom_none h i (by omega) (by omega)
theorem firstFrom_eq {p : Nat → Bool} {n a i : Nat} (h1 : a ≤ i) (h2 : i < a + n) (h3 : p i = true) (h4 : ∀ k, a ≤ k → k < i → p k = false) : firstFrom p n a = some i := by
  cases h : firstFrom p n a with
  | none => rw [firstFrom_none h i h1 h2] at h3; cases h3
  | some j =>
    obtain ⟨g1, g2, g3, g4⟩ := firstFrom_some h
    rcases Nat.lt_trichotomy i j with z | z | z
    · rw [g4 i h1 z] at h3; cases h3
    · rw [z]
    · rw [h4 j g1 z] at g3; cases g3
theorem firstFrom_no {p : Nat → Bool} {n a : Nat} (h : ∀ i, a ≤ i → i < a + n → p i = false) : firstFrom p n a = none := by
  cases e : firstFrom p n a with
  | none => rfl
  | some j =>
    obtain ⟨g1, g2, g3, _⟩ := firstFrom_some e
    rw [h j g1 g2] at g3
    cases g3
/-- S stands at i, and ends at e or ahead of it -/
def fitsAt (S g : List Nat) (e i : Nat) : Bool := decide (i + S.length ≤ e) && pre S (g.drop i)
def chain (g : List Nat) (e : Nat) : List (List Nat) → Nat → Option Nat
  | [], a => some a
  | S :: r, a => match firstFrom (fitsAt S g e) (e + 1 - a) a with
    | none => none
    | some i => chain g e r (i + S.length)
def free (g : List Nat) : List (List Nat) → Nat → Option Nat
  | [], a => some a
  | S :: r, a => match firstFrom (fun i => pre S (g.drop i)) (g.length + 1 - a) a with
    | none => none
    | some i => free g r (i + S.length)
theorem free_le (g : List Nat) : ∀ {ps : List (List Nat)} {a m : Nat}, free g ps a = some m → a ≤ m
  | [], a, m, h => by cases h; exact Nat.le_refl _
  | S :: r, a, m, h => by
    unfold free at h
    cases e : firstFrom (fun i => pre S (g.drop i)) (g.length + 1 - a) a with
    | none => rw [e] at h; cases h
    | some i =>
      rw [e] at h
      have h1 := (firstFrom_some e).1
      have h2 := free_le g h
      omega
theorem chain_free (g : List Nat) (e : Nat) (he : e ≤ g.length) : ∀ (ps : List (List Nat)) (a : Nat), (∃ m, chain g e ps a = some m ∧ m ≤ e) ↔ ∃ m, free g ps a = some m ∧ m ≤ e
  | [], a => Iff.rfl
  | S :: r, a => by
    unfold chain free
    cases h : firstFrom (fun i => pre S (g.drop i)) (g.length + 1 - a) a with
    | none =>
      have h0 := firstFrom_none h
      have e1 : firstFrom (fitsAt S g e) (e + 1 - a) a = none := firstFrom_no fun i h1 h2 => by
        have h3 : pre S (g.drop i) = false := h0 i h1 (by omega)
        unfold fitsAt
        rw [h3, Bool.and_false]
      rw [e1]
    | some i =>
      obtain ⟨g1, g2, g3, g4⟩ := firstFrom_some h
      by_cases hi : i + S.length ≤ e
      · have e1 : firstFrom (fitsAt S g e) (e + 1 - a) a = some i := by
          refine firstFrom_eq g1 (by omega) ?_ fun k k1 k2 => ?_
          · unfold fitsAt
            rw [g3, decide_eq_true hi]
            rfl
          · have := g4 k k1 k2
            unfold fitsAt
            rw [this, Bool.and_false]
        rw [e1]
        exact chain_free g e he r (i + S.length)
      · have e1 : firstFrom (fitsAt S g e) (e + 1 - a) a = none := firstFrom_no fun k k1 k2 => by
          unfold fitsAt
          by_cases hk : k < i
          · have := g4 k k1 hk
            rw [this, Bool.and_false]
          · rw [decide_eq_false (by omega)]
            rfl
        rw [e1]
        constructor
        · rintro ⟨m, h1, _⟩
          cases h1
        · rintro ⟨m, h1, h2⟩
          have := free_le g h1
          omega
/-- an end -/
def ends (S g : List Nat) : Bool := decide (S.length ≤ g.length) && pre S (g.drop (g.length - S.length))
/-- a first piece, others, a last one, as the program looks for them -/
def inOrder (f : List Nat) (ps : List (List Nat)) (z g : List Nat) : Bool :=
  pre f g && (ends z g && (match chain g (g.length - z.length) ps f.length with | none => false | some a => decide (a ≤ g.length - z.length)))
theorem chain_app (g : List Nat) (e : Nat) : ∀ (ps qs : List (List Nat)) (a : Nat), chain g e (ps ++ qs) a = (chain g e ps a).bind fun b => chain g e qs b
  | [], qs, a => rfl
  | S :: r, qs, a => by
    show (match firstFrom (fitsAt S g e) (e + 1 - a) a with | none => none | some i => chain g e (r ++ qs) (i + S.length)) = (match firstFrom (fitsAt S g e) (e + 1 - a) a with | none => none | some i => chain g e r (i + S.length)).bind fun b => chain g e qs b
    cases firstFrom (fitsAt S g e) (e + 1 - a) a with
    | none => rfl
    | some i => exact chain_app g e r qs (i + S.length)
theorem free_app (g : List Nat) : ∀ (ps qs : List (List Nat)) (a : Nat), free g (ps ++ qs) a = (free g ps a).bind fun b => free g qs b
  | [], qs, a => rfl
  | S :: r, qs, a => by
    show (match firstFrom (fun i => pre S (g.drop i)) (g.length + 1 - a) a with | none => none | some i => free g (r ++ qs) (i + S.length)) = (match firstFrom (fun i => pre S (g.drop i)) (g.length + 1 - a) a with | none => none | some i => free g r (i + S.length)).bind fun b => free g qs b
    cases firstFrom (fun i => pre S (g.drop i)) (g.length + 1 - a) a with
    | none => rfl
    | some i => exact free_app g r qs (i + S.length)
/-- the same by all places at which each piece may end -/
def inOrderF (f : List Nat) (ps : List (List Nat)) (z g : List Nat) : Bool :=
  pre f g && (match free g ps f.length with | none => false | some m => decide (m + z.length ≤ g.length) && pre z (g.drop (g.length - z.length)))
theorem inOrder_eq (f : List Nat) (ps : List (List Nat)) (z g : List Nat) : inOrder f ps z g = inOrderF f ps z g := by
  unfold inOrder inOrderF ends
  cases hf : pre f g with
  | false => rfl
  | true =>
    show (decide (z.length ≤ g.length) && pre z (g.drop (g.length - z.length)) && (match chain g (g.length - z.length) ps f.length with | none => false | some a => decide (a ≤ g.length - z.length))) = (match free g ps f.length with | none => false | some m => decide (m + z.length ≤ g.length) && pre z (g.drop (g.length - z.length)))
    have key := chain_free g (g.length - z.length) (Nat.sub_le _ _) ps f.length
    rw [Bool.eq_iff_iff]
    constructor
    · intro h
      rw [Bool.and_eq_true, Bool.and_eq_true, decide_eq_true_eq] at h
      obtain ⟨⟨h1, h2⟩, h3⟩ := h
      have h4 : ∃ m, chain g (g.length - z.length) ps f.length = some m ∧ m ≤ g.length - z.length := by
        cases e : chain g (g.length - z.length) ps f.length with
        | none => rw [e] at h3; cases h3
        | some a =>
          rw [e] at h3
          exact ⟨a, rfl, of_decide_eq_true h3⟩
      obtain ⟨m, e, hm⟩ := key.mp h4
      rw [e]
      show (decide (m + z.length ≤ g.length) && pre z (g.drop (g.length - z.length))) = true
      rw [h2, decide_eq_true (by omega)]
      rfl
    · intro h
      cases e : free g ps f.length with
      | none => rw [e] at h; cases h
      | some m =>
        rw [e] at h
        have h' : (decide (m + z.length ≤ g.length) && pre z (g.drop (g.length - z.length))) = true := h
        rw [Bool.and_eq_true, decide_eq_true_eq] at h'
        obtain ⟨a, ea, ha⟩ := key.mpr ⟨m, e, by omega⟩
        rw [ea, h'.2, decide_eq_true (by omega)]
        show (true && true && decide (a ≤ g.length - z.length)) = true
        rw [decide_eq_true ha]
        rfl
/-! ### find within two places -/
theorem at_any {x y : Str} {hi i : Nat} (hh : hi ≤ x.length) : StrLaws.At x y hi i ↔ fitsAt (tl y) (tl x) hi i = true := by
  have hl := len_tl y
  unfold StrLaws.At fitsAt
  rw [StrLaws.subAt_eq, hl, Bool.and_eq_true, decide_eq_true_eq]
  rfl
theorem occ_within (x y : Str) (lo hi : Nat) :
    (Builtin.Str.occurrences x y lo hi 1 = [] ∧ ∀ i, lo ≤ i → ¬ StrLaws.At x y hi i) ∨
    ∃ i r, Builtin.Str.occurrences x y lo hi 1 = i :: r ∧ lo ≤ i ∧ StrLaws.At x y hi i ∧ ∀ k, lo ≤ k → k < i → ¬ StrLaws.At x y hi k := by
  rw [StrLaws.occ_eq]
  rcases StrLaws.occ_first x y hi 1 (Nat.le_refl _) (List.range' lo (hi + 1 - lo)) lo (fun i hi => by have := List.mem_range'_1.mp hi; omega) with ⟨h0, hn⟩ | ⟨pr, a, post, e, h0, ha, hn⟩
  · refine .inl ⟨by rw [h0], fun i hlo hi' => ?_⟩
    exact hn i (by have := hi'.1; exact List.mem_range'_1.mpr ⟨hlo, by omega⟩) hi'
  · have ha1 : a ∈ List.range' lo (hi + 1 - lo) := by rw [e]; simp
    have hl : lo ≤ a := (List.mem_range'_1.mp ha1).1
    refine .inr ?_
    cases hr : (forIn (List.range' lo (hi + 1 - lo)) ((#[] : Array Nat), lo) (StrLaws.occBody x y hi 1)).run.fst.toList with
    | nil =>
      rw [← Array.getElem?_toList, hr] at h0
      cases h0
    | cons b r =>
      rw [← Array.getElem?_toList, hr] at h0
      have eb : b = a := Option.some.inj h0
      subst eb
      refine ⟨b, r, rfl, hl, ha, fun k k1 k2 hk => ?_⟩
      have hk1 : k ∈ List.range' lo (hi + 1 - lo) := List.mem_range'_1.mpr ⟨k1, by have := hk.1; omega⟩
      rw [e] at hk1
      rcases List.mem_append.mp hk1 with z | z
      · exact hn k z hk
      · have hp : (List.range' lo (hi + 1 - lo)).Pairwise (· < ·) := List.pairwise_lt_range'
        rw [e] at hp
        have hq := (List.pairwise_append.mp hp).2.1
        rcases List.mem_cons.mp z with z | z
        · omega
        · have := (List.pairwise_cons.mp hq).1 k z
          omega
theorem find_first (x y : Str) (lo hi : Nat) (hh : hi ≤ x.length) (hlo : lo ≤ x.length) : Txt.findIn x y (lo : Int) (hi : Int) = (match firstFrom (fitsAt (tl y) (tl x) hi) (hi + 1 - lo) lo with | some i => (i : Int) | none => -1) := by
  unfold Txt.findIn
  have e1 : fromIndex x.length (lo : Int) = lo := by
    unfold fromIndex
    rw [if_neg (by omega)]
    omega
  have e2 : toIndexW x.length (hi : Int) = hi := by
    unfold toIndexW
    rw [if_neg (by omega)]
    omega
  rw [e1, e2]
  rcases occ_within x y lo hi with ⟨h0, hn⟩ | ⟨i, r, h0, h1, h2, h3⟩
  · rw [h0, firstFrom_no fun i i1 i2 => ?_]
    cases z : fitsAt (tl y) (tl x) hi i with
    | false => rfl
    | true => exact absurd ((at_any hh).mpr z) (hn i i1)
  · rw [h0, firstFrom_eq h1 ?_ ((at_any hh).mp h2) fun k k1 k2 => ?_]
    · have := h2.1
      omega
    · cases z : fitsAt (tl y) (tl x) hi k with
      | false => rfl
      | true => exact absurd ((at_any hh).mpr z) (h3 k k1 k2)

section
variable {X : Cx}
/-- a list or a tuple, walked -/
def SqA (K : PySem.W.Frag) (H : Hp) (a : Addr) (xs : List V) : Prop := SqL K H a xs ∨ SqT K H a xs
def iSeq (K : PySem.W.Frag) (tl : TE) : TI := fun σ H R => tl σ H fun x H1 => ∃ a, x = .ref a ∧ ((∃ xs, SqL K H1 a xs) ∧ R (Itl K a) H1 ∨ (∃ xs, SqT K H1 a xs) ∧ R (Itt K a) H1)
theorem pi_seq {tg l : Expr} {tl : TE} (hl : PE X l tl) : PI X tg l (iSeq X.K tl) := by
  refine ⟨fun pins s σ H R I h => ?_⟩
  refine thn (hl.run pins s σ H _ I h) fun v s1 ⟨x, H1, I1, r1, q1⟩ => ?_
  obtain ⟨a, e, q⟩ := q1
  subst e
  cases r1
  rcases q with ⟨⟨xs, hq⟩, q⟩ | ⟨⟨xs, hq⟩, q⟩
  · obtain ⟨its, rv, p, hz⟩ := I1.list hq
    refine wpAny_pyIter_list p.isList ?_
    refine ⟨s1.heap.objs.size, [s1.heap.objs.size], _, _, H1, rfl, I1.kept (t' := s1.toks) fun b o e => Heap.get?_push_of_some _ e, turn_list a _, ⟨_, Heap.get?_push_size _ rfl, rfl, rfl⟩, fun b hb => ?_, q⟩
    have e : b = s1.heap.objs.size := by simpa using hb
    subst e
    exact I1.fpOk (Nat.le_refl _) (I1.hok.fresh (Nat.le_refl _))
  · obtain ⟨its, rv, p, hz⟩ := I1.tuple hq
    refine wpAny_pyIter_tuple (show s1.heap.IsTuple a its.toArray from p) ?_
    refine ⟨s1.heap.objs.size, [s1.heap.objs.size], _, _, H1, rfl, I1.kept (t' := s1.toks) fun b o e => Heap.get?_push_of_some _ e, turn_tuple a _, ⟨_, Heap.get?_push_size _ rfl, rfl, rfl⟩, fun b hb => ?_, q⟩
    have e : b = s1.heap.objs.size := by simpa using hb
    subst e
    exact I1.fpOk (Nat.le_refl _) (I1.hok.fresh (Nat.le_refl _))
end
theorem flat_strs (l : List Str) : (l.map V.str).all flatV = true := by
  rw [List.all_map]
  exact List.all_eq_true.mpr fun _ _ => rfl
/-- a text among texts -/
def has (x : Str) (l : List Str) : Bool := l.any fun y => y == x
theorem inV_str (x : Str) (l : List Str) : inV (.str x) (l.map V.str) = has x l := by
  unfold inV has
  rw [List.any_map]
  rfl
theorem has_iff {x : Str} {l : List Str} : has x l = true ↔ x ∈ l := by
  unfold has
  rw [List.any_eq_true]
  constructor
  · rintro ⟨y, hy, e⟩
    rw [← eq_of_beq e]
    exact hy
  · intro h
    exact ⟨x, h, beq_self_eq_true x⟩
section
variable {P : Program} {w : World} {K : PySem.W.Frag} {mg : Str → Option Value} {base : Heap}
def sp_is_flag : Sp := fun vs H Q _ => ∃ x : Str, vs = [.str x] ∧ Q (.bl (has x v_FLAGS)) H
theorem ok_is_flag {f : Addr} {fd : FuncData} {dvs : List V} (F : Fn K "is_flag" s_is_flag dvs f fd) (m_isinstance : mg "isinstance" = none) (m_str : mg "str" = none) {a_FLAGS : Addr} (c_FLAGS : mg "FLAGS" = some (.ref a_FLAGS)) (q_FLAGS : ∀ H, SqT K H a_FLAGS (v_FLAGS.map V.str)) : FnOk P w K mg base CX0 1 f fd ["thing"] (sp_is_flag) := by
  refine Fn.okN F sc_is_flag (fun vs H Q E h => ?_) (fun cdv A outer s H vs Q E hr h => ?_)
  · obtain ⟨_, rfl, _⟩ := h
    rfl
  · obtain ⟨x, rfl, k⟩ := h
    refine ⟨_, (pss_one (ps_ret (pe_and (pe_callB call_isi (by rfl) m_isinstance (by decide +kernel) (pa_cons (pv 0) (pa_cons (pe_bltn (v := .ty "str") (by rfl) m_str (by decide +kernel) rfl) pa_nil))) (pe_one (pe_cmpR op_in_seq (pv 0) (pe_glob (v := .ref a_FLAGS) rfl c_FLAGS rfl) rfl))))), ?_⟩
    refine ⟨_, rfl, _, _, _, _, true, rfl, .ty "str", .base (.str x), kit_ty (by decide +kernel), true, rfl, ?_⟩
    refine ⟨_, rfl, a_FLAGS, _, rfl, .inr (q_FLAGS H), rfl, flat_strs _, ?_⟩
    show Q (.bl (inV (.str x) (v_FLAGS.map V.str))) H
    rw [inV_str]
    exact k
/-- flags as they may be passed: a list or a tuple of flags -/
def sp_require_flags (K : PySem.W.Frag) : Sp := fun vs H Q _ => ∃ (p : Addr) (xs : List Str), vs = [.ref p] ∧ SqA K H p (xs.map V.str) ∧ (∀ x ∈ xs, has x v_FLAGS = true) ∧ Q .non H
theorem ok_require_flags {f : Addr} {fd : FuncData} {dvs : List V} (F : Fn K "require_flags" s_require_flags dvs f fd) (O_is_flag : Own P w K mg base "is_flag" 1 ["thing"] [] (sp_is_flag)) : FnOk P w K mg base CX0 2 f fd ["flags"] (sp_require_flags K) := by
  refine Fn.okN F sc_require_flags (fun vs H Q E h => ?_) (fun cdv A outer s H vs Q E hr h => ?_)
  · obtain ⟨_, _, rfl, _⟩ := h
    rfl
  · obtain ⟨p, xs, rfl, hp, hx, k⟩ := h
    refine ⟨_, (pss_one (ps_for PassesOwn.never rfl (pi_seq (pv 0)) (pg_name (i := 1) sc_require_flags.nd rfl (.inl rfl))
          (pss_one (ps_if (pt_not (pt_val (pe_own O_is_flag (hr.mono (by decide)) (by rfl) (pa_cons (pv 1) pa_nil))))
                (pss_one ps_never)
                pss_nil)))), ?_⟩
    have turn : ∀ (D : Ends) (i : Nat) (v : V) (σ : L2.St) (H1 : Hp), (xs.map V.str)[i]? = some v → (∃ v1 : Option V, σ = [some (.ref p), v1] ∧ H1 = H) → ∃ z : Str, v = .str z ∧ has z v_FLAGS = true := by
      intro D i v σ H1 hv _
      rw [List.getElem?_map] at hv
      cases e : xs[i]? with
      | none =>
        rw [e] at hv
        cases hv
      | some z =>
        rw [e] at hv
        exact ⟨z, (Option.some.inj hv).symm, hx z (List.mem_of_getElem? e)⟩
    refine ⟨_, rfl, p, rfl, ?_⟩
    rcases hp with hp | hp
    · refine .inl ⟨⟨_, hp⟩, for_list (K := K) (a := p) (xs := xs.map V.str) (fun i σ H1 => ∃ v1 : Option V, σ = [some (.ref p), v1] ∧ H1 = H) ⟨none, rfl, rfl⟩ (fun i σ H1 _ h1 => by obtain ⟨_, _, rfl⟩ := h1; exact hp) ?_ ?_⟩
      · rintro i v σ H1 hv ⟨v1, rfl, rfl⟩
        obtain ⟨z, rfl, hz⟩ := turn { nx := fun _ _ => True, rt := fun _ _ => True, bk := fun _ _ => True, ct := fun _ _ => True } i v _ H1 hv ⟨v1, rfl, rfl⟩
        refine ⟨_, rfl, z, rfl, _, rfl, ?_⟩
        rw [hz]
        exact iteF ⟨_, rfl, rfl⟩
      · rintro σ H1 ⟨v1, rfl, rfl⟩
        exact k
    · refine .inr ⟨⟨_, hp⟩, for_tup (K := K) (a := p) (xs := xs.map V.str) (fun i σ H1 => ∃ v1 : Option V, σ = [some (.ref p), v1] ∧ H1 = H) ⟨none, rfl, rfl⟩ (fun i σ H1 _ h1 => by obtain ⟨_, _, rfl⟩ := h1; exact hp) ?_ ?_⟩
      · rintro i v σ H1 hv ⟨v1, rfl, rfl⟩
        obtain ⟨z, rfl, hz⟩ := turn { nx := fun _ _ => True, rt := fun _ _ => True, bk := fun _ _ => True, ct := fun _ _ => True } i v _ H1 hv ⟨v1, rfl, rfl⟩
        refine ⟨_, rfl, z, rfl, _, rfl, ?_⟩
        rw [hz]
        exact iteF ⟨_, rfl, rfl⟩
      · rintro σ H1 ⟨v1, rfl, rfl⟩
        exact k
def sp_is_blank : Sp := fun vs H Q _ => ∃ x : Str, vs = [.str x] ∧ x.length ≤ 1000000 ∧ Q (.bl (isBlank (tl x))) H
end

/-! ### all stages -/
def DT : List Nat := [46, 46, 46]
def byPieces (w g : List Nat) : Bool := match spl DT 0 [] w with
  | [] => false
  | f :: r => if r.isEmpty = true then false else inOrder f r.dropLast (r.getLastD []) g
def truth (w g : List Nat) : Bool := (w == [49, 10] && g == [84, 114, 117, 101, 10]) || (w == [48, 10] && g == [70, 97, 108, 115, 101, 10])
def shownW (bl nw : Bool) (w : List Nat) : List Nat :=
  if nw = true then wordsOf (if bl = true then w else marksOf w) else if bl = true then w else marksOf w
def shownG (bl nw : Bool) (g : List Nat) : List Nat :=
  if nw = true then wordsOf (if bl = true then g else blanksOf g) else if bl = true then g else blanksOf g
def lets (w g : List Nat) (t1 bl nw el : Bool) : Bool :=
  if w = g then true else if (!t1 && truth w g) = true then true else
  if shownW bl nw w = shownG bl nw g then true else el && byPieces (shownW bl nw w) (shownG bl nw g)
def letsF (w g : List Nat) (xs : List Str) : Bool := lets w g (has "DONT_ACCEPT_TRUE_FOR_1" xs) (has "DONT_ACCEPT_BLANKLINE" xs) (has "NORMALIZE_WHITESPACE" xs) (has "ELLIPSIS" xs)
theorem dt_eq : ("..." : Str) = ⟨DT.toArray⟩ := ext_tl (by decide +kernel)
theorem spl_two {S : List Nat} (hS : S ≠ []) : ∀ (l acc : List Nat), 1 < (spl S 0 acc l).length ↔ ∃ i, pre S (l.drop i) = true
  | [], acc => by
    rw [spl_nil]
    constructor
    · intro h
      exact absurd h (by simp)
    · rintro ⟨i, h⟩
      rw [List.drop_nil, pre_nil hS] at h
      cases h
  | c :: r, acc => by
    cases h : pre S (c :: r) with
    | true =>
      rw [spl_hit h]
      refine ⟨fun _ => ⟨0, h⟩, fun _ => ?_⟩
      have := List.length_pos_iff.mpr (spl_ne S (S.length - 1) [] r)
      rw [List.length_cons]
      omega
    | false =>
      rw [spl_miss h, spl_two hS r (acc ++ [c])]
      constructor
      · rintro ⟨i, e⟩
        exact ⟨i + 1, e⟩
      · rintro ⟨i, e⟩
        cases i with
        | zero => rw [List.drop_zero, h] at e; cases e
        | succ i => exact ⟨i, e⟩
theorem dots_in (w : Str) : (!(Builtin.Str.occurrences w ⟨DT.toArray⟩ 0 w.length 1).isEmpty) = decide (1 < (spl DT 0 [] (tl w)).length) := by
  rw [Bool.eq_iff_iff, StrLaws.found_iff, decide_eq_true_eq, spl_two (by decide)]
  constructor
  · rintro ⟨i, h⟩
    exact ⟨i, (at_iff (x := w) (y := ⟨DT.toArray⟩) (by decide) i).mp h⟩
  · rintro ⟨i, h⟩
    exact ⟨i, (at_iff (x := w) (y := ⟨DT.toArray⟩) (by decide) i).mpr h⟩
theorem three_parts {α : Type} : ∀ {l : List α}, 1 < l.length → ∃ f inner z, l = f :: (inner ++ [z])
  | [], h => by simp at h
  | [_], h => by simp at h
  | a :: b :: r, _ => ⟨a, (b :: r).dropLast, (b :: r).getLast (List.cons_ne_nil _ _), by rw [List.dropLast_concat_getLast]⟩
theorem byPieces_parts {w g : List Nat} {f z : Str} {inner : List Str} (h : spl DT 0 [] w = (f :: (inner ++ [z])).map tl) : byPieces w g = inOrder (tl f) (inner.map tl) (tl z) g := by
  unfold byPieces
  rw [h, List.map_cons, List.map_append]
  show (if (inner.map tl ++ [tl z]).isEmpty = true then false else inOrder (tl f) (inner.map tl ++ [tl z]).dropLast ((inner.map tl ++ [tl z]).getLastD []) g) = _
  rw [if_neg (by simp), List.dropLast_concat]
  congr 1
  simp
theorem byPieces_one {w g : List Nat} (h : ¬ 1 < (spl DT 0 [] w).length) : byPieces w g = false := by
  unfold byPieces
  cases e : spl DT 0 [] w with
  | nil => rfl
  | cons f r =>
    rw [e] at h
    cases r with
    | nil => rfl
    | cons a r => exact absurd (by simp) h
theorem shownW_len : ∀ (bl nw : Bool) (w : List Nat), (shownW bl nw w).length ≤ w.length
  | false, false, w => marks_len w
  | false, true, w => Nat.le_trans (words_len (marksOf w)) (marks_len w)
  | true, false, w => Nat.le_refl _
  | true, true, w => words_len w
theorem shownG_len : ∀ (bl nw : Bool) (w : List Nat), (shownG bl nw w).length ≤ w.length
  | false, false, w => blanks_len w
  | false, true, w => Nat.le_trans (words_len (blanksOf w)) (blanks_len w)
  | true, false, w => Nat.le_refl _
  | true, true, w => words_len w
theorem dec_strs (x y : Str) : decide (V.str x = V.str y) = decide (tl x = tl y) := by
  rw [Bool.eq_iff_iff, decide_eq_true_eq, decide_eq_true_eq]
  exact ⟨fun h => congrArg tl (V.str.inj h), fun h => congrArg V.str (ext_tl h)⟩

/-! ### slices of texts; lines exchanged one by one -/
theorem cutS_from (z : Str) (k : Nat) : tl (cutS z (some (k : Int)) none) = (tl z).drop k := by
  show (z.cps.toList.drop (HT.sIx z.length 0 (some (k : Int)))).take (HT.sIx z.length z.length none - HT.sIx z.length 0 (some (k : Int))) = z.cps.toList.drop k
  have hl : z.cps.toList.length = z.length := (len_tl z).symm
  rw [HT.sIx_nat, HT.sIx_none]
  by_cases h : k ≤ z.length
  · rw [Nat.min_eq_left h]
    exact List.take_of_length_le (by rw [List.length_drop]; omega)
  · rw [Nat.min_eq_right (by omega), List.drop_of_length_le (by omega), List.drop_of_length_le (by omega)]
    simp
theorem cutS_to (z : Str) (k : Nat) : tl (cutS z none (some (k : Int))) = (tl z).take k := by
  show (z.cps.toList.drop (HT.sIx z.length 0 none)).take (HT.sIx z.length z.length (some (k : Int)) - HT.sIx z.length 0 none) = z.cps.toList.take k
  have hl : z.cps.toList.length = z.length := (len_tl z).symm
  rw [HT.sIx_nat, HT.sIx_none, List.drop_zero, Nat.sub_zero]
  by_cases h : k ≤ z.length
  · rw [Nat.min_eq_left h]
  · rw [Nat.min_eq_right (by omega), List.take_of_length_le (by omega), List.take_of_length_le (by omega)]
theorem cutS_mid (z : Str) (a b : Nat) (h : a ≤ z.length) : tl (cutS z (some (a : Int)) (some (b : Int))) = ((tl z).drop a).take (b - a) := by
  show (z.cps.toList.drop (HT.sIx z.length 0 (some (a : Int)))).take (HT.sIx z.length z.length (some (b : Int)) - HT.sIx z.length 0 (some (a : Int))) = (z.cps.toList.drop a).take (b - a)
  have hl : z.cps.toList.length = z.length := (len_tl z).symm
  rw [HT.sIx_nat, HT.sIx_nat, Nat.min_eq_left h]
  by_cases hb : b ≤ z.length
  · rw [Nat.min_eq_left hb]
  · rw [Nat.min_eq_right (by omega), List.take_of_length_le (by rw [List.length_drop]; omega), List.take_of_length_le (by rw [List.length_drop]; omega)]
theorem mk_eq : ("<BLANKLINE>" : Str) = ⟨MK.toArray⟩ := ext_tl (by decide +kernel)
theorem nl_eq : ("\n" : Str) = ⟨[10].toArray⟩ := ext_tl (by decide +kernel)
theorem sp_eq : (" " : Str) = ⟨[32].toArray⟩ := ext_tl (by decide +kernel)
theorem tab_eq : ("\t" : Str) = ⟨[9].toArray⟩ := ext_tl (by decide +kernel)
theorem str_at {ys : List Str} {i : Nat} {x : V} (h : (ys.map V.str)[i]? = some x) : ∃ z, x = V.str z ∧ ys[i]? = some z := by
  rw [List.getElem?_map] at h
  cases e : ys[i]? with
  | none =>
    rw [e] at h
    cases h
  | some z =>
    rw [e] at h
    exact ⟨z, (Option.some.inj h).symm, rfl⟩
theorem split_sizes (x : Str) {y : List Nat} (hy : y ≠ []) (h : y.all (· < 256) = true) : ((Txt.split x ⟨y.toArray⟩).map (·.length)).sum ≤ x.length ∧ (Txt.split x ⟨y.toArray⟩).length ≤ x.length + 1 := by
  have e := splitOf x hy h
  have s := spl_sizes (tl x) hy h
  rw [← e, List.map_map, List.length_map, ← len_tl] at s
  have e2 : (List.length ∘ tl) = fun z : Str => z.length := by
    funext z
    exact (len_tl z).symm
  rw [e2] at s
  exact s
theorem split_mem (x : Str) {y : List Nat} (hy : y ≠ []) (h : y.all (· < 256) = true) {z : Str} (hz : z ∈ Txt.split x ⟨y.toArray⟩) : z.length ≤ x.length := by
  have s := (split_sizes x hy h).1
  have : ∀ (l : List Str), z ∈ l → z.length ≤ (l.map (·.length)).sum := by
    intro l
    induction l with
    | nil => intro h; cases h
    | cons a r ih =>
      intro h
      rw [List.map_cons, List.sum_cons]
      rcases List.mem_cons.mp h with e | e
      · rw [e]
        omega
      · have := ih e
        omega
  have := this _ hz
  omega
section
variable {P : Program} {w : World} {K : PySem.W.Frag} {mg : Str → Option Value} {base : Heap}
def sp_is_mark : Sp := fun vs H Q _ => ∃ x : Str, vs = [.str x] ∧ x.length ≤ 1000000 ∧ Q (.bl (isMark (tl x))) H
def emptied (f : List Nat → Bool) (l : Str) : Str := if f (tl l) then ⟨#[]⟩ else l
theorem emptied_len (f : List Nat → Bool) (l : Str) : (emptied f l).length ≤ l.length := by
  unfold emptied
  split
  · exact Nat.zero_le _
  · exact Nat.le_refl _
theorem emptied_join (f : List Nat → Bool) (x : Str) : Txt.join ⟨[10].toArray⟩ ((Txt.split x ⟨[10].toArray⟩).map (emptied f)) = ⟨(joinL [10] ((spl [10] 0 [] (tl x)).map fun l => if f l then [] else l)).toArray⟩ := by
  refine ext_tl ?_
  rw [join_eq, tl_join, List.map_map, ← splitOf x (y := [10]) (by simp) (by decide), List.map_map]
  refine congrArg (joinL [10]) (List.map_congr_left fun a _ => ?_)
  show tl (emptied f a) = if f (tl a) then [] else tl a
  unfold emptied
  split <;> rfl
theorem emptied_sizes (f : List Nat → Bool) (x : Str) (hx : x.length ≤ 1000000) : (((Txt.split x ⟨[10].toArray⟩).map (emptied f)).map (·.length)).sum + ((Txt.split x ⟨[10].toArray⟩).map (emptied f)).length * (⟨[10].toArray⟩ : Str).length ≤ 16777216 := by
  have s := split_sizes x (y := [10]) (by simp) (by decide)
  rw [List.map_map, List.length_map]
  have h := sum_map_le (fun z => (emptied f z).length) (fun z => z.length) (Txt.split x ⟨[10].toArray⟩) fun z _ => emptied_len f z
  have e : ((Txt.split x ⟨[10].toArray⟩).map ((fun z => z.length) ∘ emptied f)).sum = ((Txt.split x ⟨[10].toArray⟩).map fun z => (emptied f z).length).sum := rfl
  have l1 : (⟨[10].toArray⟩ : Str).length = 1 := rfl
  rw [e, l1]
  omega
theorem take_map {α β : Type} (f : α → β) {l : List α} {i : Nat} {a : α} (h : l[i]? = some a) : (l.take (i + 1)).map f = (l.take i).map f ++ [f a] := by
  rw [List.take_add_one, h, List.map_append]
  rfl
def sp_marks_emptied : Sp := fun vs H Q _ => ∃ x : Str, vs = [.str x] ∧ x.length ≤ 1000000 ∧ ∀ H', Same H H' → Q (.str ⟨(marksOf (tl x)).toArray⟩) H'
def sp_blanks_emptied : Sp := fun vs H Q _ => ∃ x : Str, vs = [.str x] ∧ x.length ≤ 1000000 ∧ ∀ H', Same H H' → Q (.str ⟨(blanksOf (tl x)).toArray⟩) H'
end

/-! ### a text, sign by sign; texts joined -/
theorem for_str {x : Str} {g : TG} {tb : TS} {D : Ends} {σ : L2.St} {H : Hp} (Pv : Nat → L2.St → Hp → Prop) (h0 : Pv 0 σ H)
    (hs : ∀ i c σ H, (tl x)[i]? = some c → Pv i σ H → g (.str ⟨#[c]⟩) σ H fun σ2 H2 => tb { D with nx := Pv (i + 1), ct := Pv (i + 1), bk := D.nx } σ2 H2) (hd : ∀ σ H, Pv (tl x).length σ H → D.nx σ H) :
    ∃ W : Nat → Nat → L2.St → Hp → Prop, (∃ m, W 0 m σ H) ∧ ∀ i m σ H, W i m σ H →
      ((Its x).stop i H ∧ D.nx σ H) ∨ ((Its x).go i H ∧ ∃ N : L2.St → Hp → Prop, (∀ σ' H', N σ' H' → ∃ m', m' < m ∧ W (i + 1) m' σ' H') ∧ ∀ y H', (Its x).yld i H y H' → g y σ H' fun σ2 H2 => tb { D with nx := N, ct := N, bk := D.nx } σ2 H2) := by
  have sz : x.cps.size = (tl x).length := by simp [tl]
  refine ⟨fun i m σ H => m = (tl x).length - i ∧ i ≤ (tl x).length ∧ Pv i σ H, ⟨(tl x).length, by simp, Nat.zero_le _, h0⟩, ?_⟩
  rintro i m σ H ⟨rfl, hi, p⟩
  by_cases hlt : i < (tl x).length
  · refine .inr ⟨by show i < x.cps.size; omega, Pv (i + 1), fun σ' H' p' => ⟨(tl x).length - (i + 1), by omega, rfl, hlt, p'⟩, fun y H' z => ?_⟩
    obtain ⟨e, c, hc, ey⟩ := z
    subst e ey
    exact hs i c σ _ (by rw [← hc]; simp [tl]) p
  · have e : i = (tl x).length := by omega
    subst e
    exact .inl ⟨by show x.cps.size ≤ (tl x).length; omega, hd σ H p⟩
theorem len_join (y : Str) (m : Nat) : ∀ ws : List Str, (∀ w ∈ ws, w.length ≤ m) → (Txt.join y ws).length ≤ (m + y.length) * ws.length := by
  intro ws h
  rw [join_eq, len_tl, tl_join]
  have hy : y.length = (tl y).length := len_tl y
  induction ws with
  | nil => exact Nat.zero_le _
  | cons a r ih =>
    have ha : (tl a).length ≤ m := by
      rw [← len_tl]
      exact h a (List.mem_cons_self ..)
    have ihr := ih fun w hw => h w (List.mem_cons_of_mem _ hw)
    cases r with
    | nil =>
      show (tl a).length ≤ (m + y.length) * 1
      omega
    | cons b r =>
      show (tl a ++ (tl y ++ joinL (tl y) ((b :: r).map tl))).length ≤ _
      rw [List.length_append, List.length_append, List.length_cons (a := a), Nat.mul_succ]
      omega
theorem sum_len (m : Nat) : ∀ ws : List Str, (∀ w ∈ ws, w.length ≤ m) → (ws.map (·.length)).sum ≤ m * ws.length
  | [], _ => Nat.zero_le _
  | a :: r, h => by
    have ih := sum_len m r fun w hw => h w (List.mem_cons_of_mem _ hw)
    have ha := h a (List.mem_cons_self ..)
    rw [List.map_cons, List.sum_cons, List.length_cons, Nat.mul_succ]
    omega

/-! ### the source of draws -/
/-- a source of draws stands at D: its two lists at A and B, so many draws made -/
structure Drw (H : Hp) (D A B : Addr) (n : Int) : Prop where
  ex : ∃ (as bs : List Int) (c : Int), H D = some (.lst [.ref A, .int c, .ref B, .int n]) ∧ H A = some (.lst (as.map V.int)) ∧ H B = some (.lst (bs.map V.int))
  ab : A ≠ B
  pos : 0 ≤ n
/-- all but what a draw may change stands as it stood -/
def Kept (D A : Addr) (H H' : Hp) : Prop := ∀ b o, H b = some o → b ≠ D → b ≠ A → H' b = some o
theorem Kept.refl {D A : Addr} {H : Hp} : Kept D A H H := fun _ _ e _ _ => e
theorem Kept.trans {D A : Addr} {H H' H'' : Hp} (h : Kept D A H H') (k : Kept D A H' H'') : Kept D A H H'' := fun b o e n m => k b o (h b o e n m) n m
theorem Kept.of {D A : Addr} {H H' : Hp} (h : Same H H') : Kept D A H H' := fun b o e _ _ => h b o e
theorem Kept.upd {D A p : Addr} {o : HO} {H H' : Hp} (h : Kept D A H H') (hp : H p = none) : Kept D A H (L2.upd H' p o) := fun b x e n m => by
  rw [upd_ne (ne_of_none e hp)]
  exact h b x e n m
theorem Drw.same {H H' : Hp} {D A B : Addr} {n : Int} (h : Drw H D A B n) (k : Same H H') : Drw H' D A B n := by
  obtain ⟨⟨as, bs, c, h1, h2, h3⟩, h4, h5⟩ := h
  exact ⟨⟨as, bs, c, k _ _ h1, k _ _ h2, k _ _ h3⟩, h4, h5⟩
theorem Drw.tracked {H : Hp} {D A B : Addr} {n : Int} (h : Drw H D A B n) : (∃ o, H D = some o) ∧ (∃ o, H A = some o) ∧ ∃ o, H B = some o := by
  obtain ⟨⟨as, bs, c, h1, h2, h3⟩, h4, h5⟩ := h
  exact ⟨⟨_, h1⟩, ⟨_, h2⟩, ⟨_, h3⟩⟩
/-- a change at a third place -/
theorem Drw.upd {H : Hp} {D A B p : Addr} {o : HO} {n : Int} (h : Drw H D A B n) (hD : p ≠ D) (hA : p ≠ A) (hB : p ≠ B) : Drw (L2.upd H p o) D A B n := by
  obtain ⟨⟨as, bs, c, h1, h2, h3⟩, h4, h5⟩ := h
  exact ⟨⟨as, bs, c, by rw [upd_ne (Ne.symm hD)]; exact h1, by rw [upd_ne (Ne.symm hA)]; exact h2, by rw [upd_ne (Ne.symm hB)]; exact h3⟩, h4, h5⟩
theorem Drw.new {H : Hp} {D A B p : Addr} {o : HO} {n : Int} (h : Drw H D A B n) (hp : H p = none) : Drw (L2.upd H p o) D A B n := h.same (same_new hp)

theorem canLay_ints (ns : List Int) : PyData.canLayAll0 (ns.map PyData.int) = true := by
  induction ns with
  | nil => rfl
  | cons x r ih => simpa [PyData.canLayAll0, PyData.canLay0] using ih
theorem depth_ints (ns : List Int) : PyData.depthAll (ns.map PyData.int) ≤ 1 := by
  induction ns with
  | nil => simp [PyData.depthAll]
  | cons x r ih => simp [PyData.depthAll, PyData.depth]; omega
theorem shaped_ints (ns : List Int) : SeqAt.shaped (.list (ns.map PyData.int)) = true := by
  have h1 := canLay_ints ns
  have h2 := depth_ints ns
  simp [SeqAt.shaped, PyData.canLay0, PyData.depth, h1]
  omega
theorem dp_ints {K : PySem.W.Frag} {H : Hp} : ∀ (ns : List Int), DpAll K H (ns.map V.int) (ns.map PyData.int)
  | [] => .nil
  | x :: r => .cons (.int x) (dp_ints r)
theorem eqv_nil (ns : List Int) : PyData.eqv (.list (ns.map PyData.int)) (.list []) = ns.isEmpty := by
  cases ns <;> simp [PyData.eqv, PyData.eqvAll]

section
variable {P : Program} {w : World} {K : PySem.W.Frag} {mg : Str → Option Value} {base : Heap}
/-! ### _law_mixed -/
def sp_law_mixed : Sp := fun vs H Q _ => ∃ (s k : Int), vs = [.int s, .int k] ∧ 0 ≤ k ∧ k < 4194304 ∧ ∀ r, Q (.int r) H
theorem ok_law_mixed {f : Addr} {fd : FuncData} {dvs : List V} (F : Fn K "_law_mixed" s_law_mixed dvs f fd) (m_int : mg "int" = none) : FnOk P w K mg base CX0 1 f fd ["seed", "k"] (sp_law_mixed) := by
  refine Fn.okN F sc_law_mixed (fun vs H Q E h => ?_) (fun cdv A outer s H vs Q E hr h => ?_)
  · obtain ⟨_, _, rfl, _⟩ := h
    rfl
  · obtain ⟨x, y, rfl, y0, y1, k⟩ := h
    refine ⟨_, (pss_cons (ps_set (i := 2) sc_law_mixed.nd rfl (.inl rfl) (pe_op op_mod (pe_callTy call_int1 (by rfl) m_int (by decide +kernel) (pa_cons (pe_op op_pow (pe_op op_add (pe_op op_add (pe_op op_mod (pe_callTy call_int1 (by rfl) m_int (by decide +kernel) (pa_cons (pv 0) pa_nil)) pe_int) (pe_op op_mul pe_int (pv 1))) pe_int) pe_int) pa_nil)) pe_int))
      (pss_one (ps_ret (pe_op op_mod (pe_callTy call_int1 (by rfl) m_int (by decide +kernel) (pa_cons (pe_op op_pow (pe_op op_add (pe_op op_add (pe_op op_mul (pv 2) pe_int) (pe_op op_mul (pe_op op_mul pe_int (pv 1)) (pv 1))) pe_int) pe_int) pa_nil)) pe_int)))), ?_⟩
    have e1 : 0 ≤ x % 2147483647 := Int.emod_nonneg _ (by decide)
    have e2 : x % 2147483647 < 2147483647 := Int.emod_lt_of_pos _ (by decide)
    refine ⟨_, rfl, .inl ⟨x, rfl, _, _, rfl, rfl, (by show (0 : Int) < 2147483647; decide), _, rfl, _, _, rfl, rfl, .inl ⟨by decide, by decide⟩, _, _, rfl, rfl, _, _, rfl, rfl, _, _, rfl, rfl, ⟨by decide, by decide, ?_⟩, .inl ⟨_, rfl, _, _, rfl, rfl, (by show (0 : Int) < 2147483629; decide), ?_⟩⟩⟩
    · generalize x % 2147483647 = m at e1 e2
      omega
    have g1 : ∀ z : Int, 0 ≤ z % 2147483629 := fun z => Int.emod_nonneg _ (by decide)
    have g2 : ∀ z : Int, z % 2147483629 < 2147483629 := fun z => Int.emod_lt_of_pos _ (by decide)
    generalize hz : ((x % 2147483647 + 7919 * y + 104729) ^ (5 : Int).toNat) = z
    have z1 := g1 z
    have z2 := g2 z
    generalize z % 2147483629 = u at z1 z2
    have yy : 40503 * y * y ≤ 40503 * 4194304 * 4194304 := Int.mul_le_mul (by omega) (by omega) y0 (by decide)
    have yy0 : 0 ≤ 40503 * y * y := Int.mul_nonneg (by omega) y0
    refine ⟨_, rfl, _, _, rfl, rfl, .inl ⟨by omega, by omega⟩, _, rfl, _, _, rfl, rfl, .inl ⟨by decide, by decide⟩, _, rfl, _, _, rfl, rfl, .inl ⟨by omega, by omega⟩, _, _, rfl, rfl, _, _, rfl, rfl, _, _, rfl, rfl, ⟨by decide, by decide, ?_⟩, .inl ⟨_, rfl, _, _, rfl, rfl, (by show (0 : Int) < 1000000007; decide), ?_⟩⟩
    · generalize 40503 * y * y = q at yy yy0
      omega
    · exact k _
/-! ### _law_draws -/
def sp_law_draws (K : PySem.W.Frag) : Sp := fun vs H Q _ => ∃ (a : Addr) (ns : List Int), vs = [.ref a] ∧ SqL K H a (ns.map V.int) ∧ ns.length ≤ 63 ∧
  ∀ (H' : Hp) (D A B : Addr), Same H H' → Drw H' D A B 0 → H D = none → H A = none → Q (.ref D) H'
theorem ok_law_draws {f : Addr} {fd : FuncData} {dvs : List V} (F : Fn K "_law_draws" s_law_draws dvs f fd) : FnOk P w K mg base CX0 1 f fd ["script"] (sp_law_draws K) := by
  refine Fn.okN F sc_law_draws (fun vs H Q E h => ?_) (fun cdv A outer s H vs Q E hr h => ?_)
  · obtain ⟨_, _, rfl, _⟩ := h
    rfl
  · obtain ⟨a, ns, rfl, hS, hl, k⟩ := h
    refine ⟨_, (pss_one (ps_ret (pe_lst (pa_cons (pe_lc (own := [("item", 1)]) (g := gName 1) (by rfl) sc_law_draws.nd (pi_list (pv 0)) (blkOk_by (own := [("item", 1)]) (N := ["script", "item"]) (sc := defScope s_law_draws) (by decide +kernel)) (fun _ _ _ _ _ => (pg_name (i := 1) sc_law_draws.nd rfl (.inl rfl))) (fun _ _ _ _ _ => (pts_one (pt_cmpR op_ge (pv 1) (pe_op op_pow pe_int pe_int) (nomark _)))) (fun _ _ _ _ _ => (pv 1))) (pa_cons pe_int (pa_cons (pe_lc (own := [("item", 1)]) (g := gName 1) (by rfl) sc_law_draws.nd (pi_list (pv 0)) (blkOk_by (own := [("item", 1)]) (N := ["script", "item"]) (sc := defScope s_law_draws) (by decide +kernel)) (fun _ _ _ _ _ => (pg_name (i := 1) sc_law_draws.nd rfl (.inl rfl))) (fun _ _ _ _ _ => (pts_one (pt_cmpR op_lt (pv 1) (pe_op op_pow pe_int pe_int) (nomark _)))) (fun _ _ _ _ _ => (pv 1))) (pa_cons pe_int pa_nil))))))), ?_⟩
    refine ⟨_, rfl, a, rfl, ⟨_, hS⟩, fun A1 nA => lc_list (K := K) (a := a) (xs := ns.map V.int) (fun i H2 => ∃ acc : List Int, acc.length ≤ i ∧ H2 A1 = some (.lst (acc.map V.int)) ∧ Same H H2)
      ⟨[], Nat.le_refl _, upd_same, same_new nA⟩ (fun i H2 _ h2 => by obtain ⟨_, _, _, s2⟩ := h2; exact s2.seq hS) ?_ ?_⟩
    · rintro i x H2 hi ⟨acc, l2, e2, s2⟩
      obtain ⟨z, rfl⟩ := int_at hi
      have hil : i < (ns.map V.int).length := (List.getElem?_eq_some_iff.mp hi).1
      rw [List.length_map] at hil
      refine ⟨rfl, _, rfl, _, _, rfl, rfl, ⟨by decide, by decide, by decide⟩, _, _, rfl, rfl, _, rfl, ite2 (fun _ => ?_) (fun _ => ?_)⟩
      · refine ⟨_, rfl, _, e2, by rw [List.length_map]; exact small1000 (by omega), acc ++ [z], by rw [List.length_append]; exact Nat.succ_le_succ l2, ?_, fun b o e => ?_⟩
        · rw [upd_same, List.map_append]
          rfl
        · rw [upd_ne (ne_of_none e nA)]
          exact s2 b o e
      · exact ⟨acc, by omega, e2, s2⟩
    · rintro H2 ⟨as, l2, e2, s2⟩
      refine ⟨_, rfl, a, rfl, ⟨_, s2.seq hS⟩, fun B1 nB => lc_list (K := K) (a := a) (xs := ns.map V.int) (fun i H3 => ∃ acc : List Int, acc.length ≤ i ∧ H3 B1 = some (.lst (acc.map V.int)) ∧ Same H2 H3)
        ⟨[], Nat.le_refl _, upd_same, same_new nB⟩ (fun i H3 _ h3 => by obtain ⟨_, _, _, s3⟩ := h3; exact (s2.trans s3).seq hS) ?_ ?_⟩
      · rintro i x H3 hi ⟨acc, l3, e3, s3⟩
        obtain ⟨z, rfl⟩ := int_at hi
        have hil : i < (ns.map V.int).length := (List.getElem?_eq_some_iff.mp hi).1
        rw [List.length_map] at hil
        refine ⟨rfl, _, rfl, _, _, rfl, rfl, ⟨by decide, by decide, by decide⟩, _, _, rfl, rfl, _, rfl, ite2 (fun _ => ?_) (fun _ => ?_)⟩
        · refine ⟨_, rfl, _, e3, by rw [List.length_map]; exact small1000 (by omega), acc ++ [z], by rw [List.length_append]; exact Nat.succ_le_succ l3, ?_, fun b o e => ?_⟩
          · rw [upd_same, List.map_append]
            rfl
          · rw [upd_ne (ne_of_none e nB)]
            exact s3 b o e
        · exact ⟨acc, by omega, e3, s3⟩
      · rintro H3 ⟨bs, l3, e3, s3⟩
        have eA := s3 _ _ e2
        have nAB : A1 ≠ B1 := ne_of_none e2 nB
        refine ⟨by show 4 ≤ sizeLine; decide, fun D1 nD => ?_⟩
        have s4 := same_new (o := .lst [.ref A1, .int 0, .ref B1, .int 0]) nD
        refine k _ D1 A1 B1 (s2.trans (s3.trans s4)) ⟨⟨as, bs, 0, upd_same, s4 _ _ eA, s4 _ _ e3⟩, nAB, Int.le_refl _⟩ ((s2.trans s3).free nD) nA
/-! ### _law_take -/
def sp_law_take : Sp := fun vs H Q _ => ∃ (D A B : Addr) (n size : Int), vs = [.ref D, .int size] ∧ Drw H D A B n ∧ n < 1000000 ∧ 1 ≤ size ∧ size < 1073741824 ∧
  ∀ (r : Int) (H' : Hp), 0 ≤ r → r < size → Drw H' D A B (n + 1) → Kept D A H H' → Q (.int r) H'
/-- within a draw -/
structure Mids (H : Hp) (D A B : Addr) (m : Int) (H1 : Hp) : Prop where
  ex : ∃ (as bs : List Int) (c : Int), H1 D = some (.lst [.ref A, .int c, .ref B, .int m]) ∧ H1 A = some (.lst (as.map V.int)) ∧ H1 B = some (.lst (bs.map V.int))
  kp : Kept D A H H1
theorem ok_law_take {f : Addr} {fd : FuncData} {dvs : List V} (F : Fn K "_law_take" s_law_take dvs f fd) (O_law_mixed : Own P w K mg base "_law_mixed" 1 ["seed", "k"] [] (sp_law_mixed)) (m_int : mg "int" = none) (m_len : mg "len" = none) : FnOk P w K mg base CX0 2 f fd ["draws", "size"] (sp_law_take) := by
  refine Fn.okN F sc_law_take (fun vs H Q E h => ?_) (fun cdv A outer s H vs Q E hr h => ?_)
  · obtain ⟨_, _, _, _, _, rfl, _⟩ := h
    rfl
  · obtain ⟨D, A1, B, n, size, rfl, ⟨⟨as, bs, c, hD, hA, hB⟩, nAB, n0⟩, hn, z0, z1, k⟩ := h
    refine ⟨_, (pss_cons (ps_asg (pe_op op_add (pe_ix ix_list (pv 0) pe_int (fun _ _ => rfl)) pe_int) (pg_sub (pv 0) pe_int set_list))
      (pss_cut (ps_if (PW.pt (pw_and (pt_cmpR op_eq (pe_ix ix_list (pv 0) pe_int (fun _ _ => rfl)) pe_int (nomark _)) (pw_and1 (pt_cmpR (op_neD hr.units) (pe_ix ix_list (pv 0) pe_int (fun _ _ => rfl)) (pe_lst pa_nil) (nomark _)))))
          (pss_one (ps_asg (pe_bm PySem.F.plainAttrs_list PySem.F.slot_list_pop PySem.F.type_list_pop mt_popAt (pe_ix ix_list (pv 0) pe_int (fun _ _ => rfl)) (pa_cons pe_int pa_nil)) (pg_sub (pv 0) pe_int set_list)))
          pss_nil)
      (pss_cons (ps_if (pt_cmpR op_gt (pe_ix ix_list (pv 0) pe_int (fun _ _ => rfl)) pe_int (nomark _))
          (pss_cons (ps_set (i := 2) sc_law_take.nd rfl (.inl rfl) (pe_op op_mod (pe_callTy call_int1 (by rfl) m_int (by decide +kernel) (pa_cons (pe_ix ix_list (pv 0) pe_int (fun _ _ => rfl)) pa_nil)) (pv 1)))
            (pss_cons (ps_asg (pe_op op_fdivN (pe_ix ix_list (pv 0) pe_int (fun _ _ => rfl)) (pv 1)) (pg_sub (pv 0) pe_int set_list))
            (pss_one (ps_ret (pv 2)))))
          pss_nil)
      (pss_cons (ps_set (i := 3) sc_law_take.nd rfl (.inl rfl) pe_int)
      (pss_cut (ps_if (pt_cmpR (op_neD hr.units) (pe_ix ix_list (pv 0) pe_int (fun _ _ => rfl)) (pe_lst pa_nil) (nomark _))
          (pss_one (ps_set (i := 3) sc_law_take.nd rfl (.inl rfl) (pe_ix ix_list (pe_ix ix_list (pv 0) pe_int (fun _ _ => rfl)) (pe_op op_mod (pe_callTy call_int1 (by rfl) m_int (by decide +kernel) (pa_cons (pe_ix ix_list (pv 0) pe_int (fun _ _ => rfl)) pa_nil)) (pe_callB call_len_seq (by rfl) m_len PySem.boot_len (pa_cons (pe_ix ix_list (pv 0) pe_int (fun _ _ => rfl)) pa_nil))) (fun _ _ => rfl))))
          pss_nil)
      (pss_cons (ps_set (i := 2) sc_law_take.nd rfl (.inl rfl) pe_int)
      (pss_cons (ps_set (i := 4) sc_law_take.nd rfl (.inl rfl) pe_int)
      (pss_cons (ps_while PassesOwn.never (pt_cmpR op_lt (pv 4) (pv 1) (nomark _))
          (pss_cons (ps_set (i := 2) sc_law_take.nd rfl (.inl rfl) (pe_op op_add (pe_op op_mul (pv 2) pe_int) (pe_own O_law_mixed (hr.mono (by decide)) (by rfl) (pa_cons (pv 3) (pa_cons (pe_op op_add (pe_ix ix_list (pv 0) pe_int (fun _ _ => rfl)) (pe_op op_mul pe_int (pe_op op_mod (pe_callTy call_int1 (by rfl) m_int (by decide +kernel) (pa_cons (pv 2) pa_nil)) pe_int))) pa_nil)))))
            (pss_one (ps_set (i := 4) sc_law_take.nd rfl (.inl rfl) (pe_op op_mul (pv 4) pe_int)))))
      (pss_one (ps_ret (pe_op op_mod (pe_callTy call_int1 (by rfl) m_int (by decide +kernel) (pa_cons (pv 2) pa_nil)) (pv 1)))))))))))), ?_⟩
    have nDA : D ≠ A1 := fun e => by
      rw [e, hA] at hD
      cases as <;> cases hD
    have nDB : D ≠ B := fun e => by
      rw [e, hB] at hD
      cases bs <;> cases hD
    -- one more draw
    refine ⟨.ref D, rfl, D, _, 3, .int n, rfl, rfl, SqL.of hD, atI_nat (j := 3) rfl, n, 1, rfl, rfl, .ref D, rfl, D, _, 3, 3, rfl, rfl, hD, rfl, ?_⟩
    have hD1 : (upd H D (.lst ([V.ref A1, .int c, .ref B, .int n].set 3 (.int (n + 1))))) D = some (.lst [V.ref A1, .int c, .ref B, .int (n + 1)]) := upd_same
    have hA1 : (upd H D (.lst ([V.ref A1, .int c, .ref B, .int n].set 3 (.int (n + 1))))) A1 = some (.lst (as.map V.int)) := by rw [upd_ne nDA.symm]; exact hA
    have hB1 : (upd H D (.lst ([V.ref A1, .int c, .ref B, .int n].set 3 (.int (n + 1))))) B = some (.lst (bs.map V.int)) := by rw [upd_ne nDB.symm]; exact hB
    have k1 : Kept D A1 H (upd H D (.lst ([V.ref A1, .int c, .ref B, .int n].set 3 (.int (n + 1))))) := fun b o e n1 _ => by rw [upd_ne n1]; exact e
    generalize upd H D (.lst ([V.ref A1, .int c, .ref B, .int n].set 3 (.int (n + 1)))) = H1 at hD1 hA1 hB1 k1
    clear hD hA hB
    -- the next of the great cells
    refine ⟨fun σ H2 => σ = [some (.ref D), some (.int size), none, none, none] ∧ Mids H D A1 B (n + 1) H2, ?_, ?_⟩
    · refine ⟨.ref D, rfl, D, _, 1, .int c, rfl, rfl, SqL.of hD1, atI_nat (j := 1) rfl, rfl, _, rfl, ?_⟩
      refine ite2 (fun _ => ?_) (fun _ => ?_)
      · refine ⟨.ref D, rfl, D, _, 0, .ref A1, rfl, rfl, SqL.of hD1, atI_nat (j := 0) rfl, by decide, fun N1 nN => ?_⟩
        have s2 := same_new (o := .lst []) nN
        refine ⟨_, _, .lst (SqL.of (s2 _ _ hA1)) (dp_ints as), .lst (SqL.of upd_same) .nil, shaped_ints as, shaped_ints [], _, rfl, ?_⟩
        rw [eqv_nil]
        cases as with
        | nil => exact iteF ⟨rfl, ⟨[], bs, c, s2 _ _ hD1, s2 _ _ hA1, s2 _ _ hB1⟩, fun b o e n1 n2 => s2 _ _ (k1 b o e n1 n2)⟩
        | cons a r =>
          refine iteT ?_
          refine ⟨.ref D, rfl, D, _, 0, .ref A1, rfl, rfl, SqL.of (s2 _ _ hD1), atI_nat (j := 0) rfl, .inl ⟨rfl, _, SqL.of (s2 _ _ hA1)⟩, A1, _, 0, 0, .int a, rfl, rfl, s2 _ _ hA1, by decide, by decide, ?_, rfl, ?_⟩
          · refine (ixN_seq (j := 0) ?_).1
            unfold ixN
            rw [if_pos (by decide), if_pos (by rw [List.length_map, List.length_cons]; omega)]
            rfl
          · refine ⟨.ref D, rfl, D, _, 1, 1, rfl, rfl, by rw [upd_ne nDA]; exact s2 _ _ hD1, rfl, rfl, ⟨r, bs, a, upd_same, ?_, ?_⟩, fun b o e n1 n2 => ?_⟩
            · rw [upd_ne nDA.symm, upd_same]
              rfl
            · rw [upd_ne nDB.symm, upd_ne nAB.symm]
              exact s2 _ _ hB1
            · rw [upd_ne n1, upd_ne n2]
              exact s2 _ _ (k1 b o e n1 n2)
      · exact ⟨rfl, ⟨as, bs, c, hD1, hA1, hB1⟩, k1⟩
    rintro σ2 H2 ⟨rfl, ⟨as2, bs2, c2, hD2, hA2, hB2⟩, k2⟩
    clear hD1 hA1 hB1 k1
    -- digits of a great cell
    refine ⟨.ref D, rfl, D, _, 1, .int c2, rfl, rfl, SqL.of hD2, atI_nat (j := 1) rfl, _, _, rfl, rfl, _, rfl, ite2 (fun _ => ?_) (fun _ => ?_)⟩
    · refine ⟨.ref D, rfl, D, _, 1, .int c2, rfl, rfl, SqL.of hD2, atI_nat (j := 1) rfl, .inl ⟨c2, rfl, _, rfl, _, _, rfl, rfl, (by show (0 : Int) < size; omega), ?_⟩⟩
      refine ⟨.ref D, rfl, D, _, 1, .int c2, rfl, rfl, SqL.of hD2, atI_nat (j := 1) rfl, _, rfl, c2, size, rfl, rfl, ⟨by omega, by omega⟩, .ref D, rfl, D, _, 1, 1, rfl, rfl, hD2, rfl, ?_⟩
      refine ⟨_, rfl, ?_⟩
      refine k _ _ (Int.emod_nonneg _ (by omega)) (Int.emod_lt_of_pos _ (by omega)) ⟨⟨as2, bs2, c2.fdiv size, upd_same, ?_, ?_⟩, nAB, by omega⟩ (fun b o e n1 n2 => ?_)
      · rw [upd_ne nDA.symm]
        exact hA2
      · rw [upd_ne nDB.symm]
        exact hB2
      · rw [upd_ne n1]
        exact k2 b o e n1 n2
    -- a seed
    refine ⟨fun σ H3 => ∃ sd : Int, σ = [some (.ref D), some (.int size), none, some (.int sd), none] ∧ Mids H D A1 B (n + 1) H3, ?_, ?_⟩
    · refine ⟨.ref D, rfl, D, _, 2, .ref B, rfl, rfl, SqL.of hD2, atI_nat (j := 2) rfl, by decide, fun N1 nN => ?_⟩
      have s3 := same_new (o := .lst []) nN
      refine ⟨_, _, .lst (SqL.of (s3 _ _ hB2)) (dp_ints bs2), .lst (SqL.of upd_same) .nil, shaped_ints bs2, shaped_ints [], _, rfl, ?_⟩
      rw [eqv_nil]
      have M3 : Mids H D A1 B (n + 1) (upd H2 N1 (.lst [])) := ⟨⟨as2, bs2, c2, s3 _ _ hD2, s3 _ _ hA2, s3 _ _ hB2⟩, fun b o e n1 n2 => s3 _ _ (k2 b o e n1 n2)⟩
      cases bs2 with
      | nil => exact iteF ⟨17, rfl, M3⟩
      | cons b r =>
        refine iteT ?_
        have hp : (0 : Int) < (((b :: r).map V.int).length : Int) := by
          rw [List.length_map, List.length_cons]
          omega
        have m0 := Int.emod_nonneg (n + 1) (show (((b :: r).map V.int).length : Int) ≠ 0 by omega)
        have m1 := Int.emod_lt_of_pos (n + 1) hp
        obtain ⟨j, hj⟩ : ∃ j : Nat, (n + 1) % (((b :: r).map V.int).length : Int) = (j : Int) := ⟨_, (Int.toNat_of_nonneg m0).symm⟩
        have jl : j < (b :: r).length := by
          rw [hj, List.length_map] at m1
          omega
        refine ⟨.ref D, rfl, D, _, 2, .ref B, rfl, rfl, SqL.of (s3 _ _ hD2), atI_nat (j := 2) rfl, .ref D, rfl, D, _, 3, .int (n + 1), rfl, rfl, SqL.of (s3 _ _ hD2), atI_nat (j := 3) rfl, .inl ⟨n + 1, rfl, .ref D, rfl, D, _, 2, .ref B, rfl, rfl, SqL.of (s3 _ _ hD2), atI_nat (j := 2) rfl, B, _, rfl, .inl (SqL.of (s3 _ _ hB2)), _, _, rfl, rfl, hp, ?_⟩⟩
        refine ⟨B, _, _, .int ((b :: r)[j]'jl), rfl, rfl, SqL.of (s3 _ _ hB2), ?_, ⟨_, rfl, M3⟩⟩
        rw [hj]
        refine atI_nat ?_
        rw [List.getElem?_map, List.getElem?_eq_getElem jl]
        rfl
    rintro σ3 H3 ⟨sd, rfl, M3⟩
    obtain ⟨⟨as3, bs3, c3, hD3, hA3, hB3⟩, k3⟩ := id M3
    -- the loop
    refine while_by (fun σ H4 => ∃ fd rc : Int, σ = [some (.ref D), some (.int size), some (.int fd), some (.int sd), some (.int rc)] ∧ H4 = H3 ∧ 1 ≤ rc) (fun σ _ => match σ with | [_, _, _, _, some (.int rc)] => (size - rc).toNat | _ => 0) ⟨0, 1, rfl, rfl, by decide⟩ ?_ ?_
    · rintro σ H4 ⟨fd, rc, rfl, rfl, r1⟩
      refine ⟨_, rfl, _, rfl, _, _, rfl, rfl, _, rfl, ite2 (fun lt => ?_) (fun _ => ?_)⟩
      · have lt' : rc < size := of_decide_eq_true lt
        have q0 : 0 ≤ fd % 97 := Int.emod_nonneg _ (by decide)
        have q1 : fd % 97 < 97 := Int.emod_lt_of_pos _ (by decide)
        refine ⟨_, rfl, _, _, rfl, rfl, .inr ⟨by decide, by decide⟩, _, rfl, .ref D, rfl, D, _, 3, .int (n + 1), rfl, rfl, SqL.of hD3, atI_nat (j := 3) rfl, _, rfl, .inl ⟨_, rfl, _, _, rfl, rfl, (by show (0 : Int) < 97; decide), _, _, rfl, rfl, .inl ⟨by decide, by decide⟩, _, _, rfl, rfl, _, _, rfl, ?_, ?_, fun r => ?_⟩⟩
        · generalize fd % 97 = q at q0 q1
          omega
        · generalize fd % 97 = q at q0 q1
          omega
        · refine ⟨_, _, rfl, rfl, _, rfl, _, _, rfl, rfl, .inr ⟨by decide, by decide⟩, ⟨_, _, rfl, rfl, by omega⟩, ?_⟩
          show (size - rc * 1000000007).toNat < (size - rc).toNat
          omega
      · refine ⟨_, rfl, .inl ⟨_, rfl, _, rfl, _, _, rfl, rfl, (by show (0 : Int) < size; omega), ?_⟩⟩
        exact k _ _ (Int.emod_nonneg _ (by omega)) (Int.emod_lt_of_pos _ (by omega)) ⟨⟨as3, bs3, c3, hD3, hA3, hB3⟩, nAB, by omega⟩ k3
    · rintro σ H4 Q1 Q2 i ⟨v, e1, w, e2, i1, j1, e3, e4, b, e5, q⟩
      exact ⟨v, e1, w, e2, i1, j1, e3, e4, b, e5, i _ _ q⟩

/-! ### _law_pick -/
/-- a list or a tuple that no draw touches -/
def SeqO (H : Hp) (p : Addr) (xs : List V) : Prop := H p = some (.lst xs) ∨ H p = some (.tup xs)
theorem SeqO.same {H H' : Hp} {p : Addr} {xs : List V} (h : SeqO H p xs) (k : Same H H') : SeqO H' p xs := h.elim (fun e => .inl (k _ _ e)) (fun e => .inr (k _ _ e))
theorem SeqO.kept {H H' : Hp} {p D A : Addr} {xs : List V} (h : SeqO H p xs) (k : Kept D A H H') (n1 : p ≠ D) (n2 : p ≠ A) : SeqO H' p xs := h.elim (fun e => .inl (k _ _ e n1 n2)) (fun e => .inr (k _ _ e n1 n2))
def sp_law_pick : Sp := fun vs H Q _ => ∃ (D A B p : Addr) (n : Int) (xs : List V), vs = [.ref D, .ref p] ∧ Drw H D A B n ∧ n < 1000000 ∧ SeqO H p xs ∧ p ≠ D ∧ p ≠ A ∧ 1 ≤ xs.length ∧ xs.length < 1000000 ∧
  ∀ (i : Nat) (v : V) (H' : Hp), xs[i]? = some v → Drw H' D A B (n + 1) → Kept D A H H' → Q v H'
theorem ok_law_pick {f : Addr} {fd : FuncData} {dvs : List V} (F : Fn K "_law_pick" s_law_pick dvs f fd) (O_law_take : Own P w K mg base "_law_take" 2 ["draws", "size"] [] (sp_law_take)) (m_len : mg "len" = none) : FnOk P w K mg base CX0 3 f fd ["draws", "some"] (sp_law_pick) := by
  refine Fn.okN F sc_law_pick (fun vs H Q E h => ?_) (fun cdv A outer s H vs Q E hr h => ?_)
  · obtain ⟨_, _, _, _, _, _, rfl, _⟩ := h
    rfl
  · obtain ⟨D, A1, B, p, n, xs, rfl, dr, hn, hp, pD, pA, l0, l1, k⟩ := h
    refine ⟨_, (pss_one (ps_ret (pe_ix ix_seq (pv 1) (pe_own O_law_take (hr.mono (by decide)) (by rfl) (pa_cons (pv 0) (pa_cons (pe_callB call_len_seq (by rfl) m_len PySem.boot_len (pa_cons (pv 1) pa_nil)) pa_nil))) (fun _ _ => rfl)))), ?_⟩
    refine ⟨.ref p, rfl, .ref D, rfl, .ref p, rfl, p, xs, rfl, hp.elim (fun e => .inl (SqL.of e)) (fun e => .inr (SqT.of e)), D, A1, B, n, (xs.length : Int), rfl, dr, hn, by omega, by omega, fun r H' r0 r1 dr' kp => ?_⟩
    obtain ⟨j, rfl⟩ : ∃ j : Nat, r = (j : Int) := ⟨_, (Int.toNat_of_nonneg r0).symm⟩
    have jl : j < xs.length := by omega
    have g : xs[j]? = some xs[j] := List.getElem?_eq_getElem jl
    rcases hp.kept kp pD pA with e | e
    · exact .inl ⟨p, xs, (j : Int), xs[j], rfl, rfl, SqL.of e, atI_nat g, k j _ _ g dr' kp⟩
    · exact .inr (.inl ⟨p, xs, (j : Int), xs[j], rfl, rfl, SqT.of e, atI_nat g, k j _ _ g dr' kp⟩)
end

/-! ### the law's own look: lines, words, pieces -/
theorem lc_str {x : Str} {g : TG} {tt : TT} {te : TE} {vs : List Nat} {σ : L2.St} {H1 : Hp} {D : Addr} {Qd : Hp → Prop} (Pv : Nat → Hp → Prop) (h0 : Pv 0 (upd H1 D (.lst [])))
    (hs : ∀ i c H, (tl x)[i]? = some c → Pv i H → g (.str ⟨#[c]⟩) (wipe σ vs) H fun σ2 H2 => wipe σ2 vs = wipe σ vs ∧ tt σ2 H2 fun b H3 =>
      if b = true then te σ2 H3 fun y H4 => ∃ acc, H4 D = some (.lst acc) ∧ acc.length < sizeLine ∧ Pv (i + 1) (upd H4 D (.lst (acc ++ [y]))) else Pv (i + 1) H3) (hd : ∀ H, Pv (tl x).length H → Qd H) :
    ∃ W : Nat → Nat → Hp → Prop, (∃ m, W 0 m (upd H1 D (.lst []))) ∧ ∀ i m H, W i m H →
      ((Its x).stop i H ∧ Qd H) ∨ ((Its x).go i H ∧ ∃ Nx : Hp → Prop, (∀ H', Nx H' → ∃ m', m' < m ∧ W (i + 1) m' H') ∧ ∀ y H', (Its x).yld i H y H' → g y (wipe σ vs) H' fun σ2 H2 => wipe σ2 vs = wipe σ vs ∧ tt σ2 H2 fun b H3 =>
        if b = true then te σ2 H3 fun y H4 => ∃ acc, H4 D = some (.lst acc) ∧ acc.length < sizeLine ∧ Nx (upd H4 D (.lst (acc ++ [y]))) else Nx H3) := by
  have sz : x.cps.size = (tl x).length := by simp [tl]
  refine ⟨fun i m H => m = (tl x).length - i ∧ i ≤ (tl x).length ∧ Pv i H, ⟨(tl x).length, by simp, Nat.zero_le _, h0⟩, ?_⟩
  rintro i m H ⟨rfl, hi, p⟩
  by_cases hlt : i < (tl x).length
  · refine .inr ⟨by show i < x.cps.size; omega, Pv (i + 1), fun H' p' => ⟨(tl x).length - (i + 1), by omega, rfl, hlt, p'⟩, fun y H' z => ?_⟩
    obtain ⟨e, c, hc, ey⟩ := z
    subst e ey
    exact hs i c _ (by rw [← hc]; simp [tl]) p
  · have e : i = (tl x).length := by omega
    subst e
    exact .inl ⟨by show x.cps.size ≤ (tl x).length; omega, hd H p⟩
/-- all signs are signs -/
def okS (x : Str) : Prop := strOkL (tl x) = true
where strOkL (l : List Nat) : Bool := l.all (· < 1114112)
theorem okS_iff {x : Str} : okS x ↔ ∀ c ∈ tl x, c < 1114112 := by
  unfold okS okS.strOkL
  rw [List.all_eq_true]
  exact ⟨fun h c hc => of_decide_eq_true (h c hc), fun h c hc => decide_eq_true (h c hc)⟩
theorem okS_str {x : Str} (h : okS x) : PyData.strOk x = true := by
  unfold PyData.strOk
  rw [Array.all_eq_true_iff_forall_mem]
  intro c hc
  exact decide_eq_true (okS_iff.mp h c (Array.mem_toList_iff.mpr hc))
theorem dp_strs {K : PySem.W.Frag} {H : Hp} : ∀ (ns : List Str), DpAll K H (ns.map V.str) (ns.map PyData.str)
  | [] => .nil
  | x :: r => .cons (.str x) (dp_strs r)
theorem canLay_strs (ns : List Str) (h : ∀ x ∈ ns, okS x) : PyData.canLayAll0 (ns.map PyData.str) = true := by
  induction ns with
  | nil => rfl
  | cons x r ih =>
    have h1 := okS_str (h x (List.mem_cons_self ..))
    have h2 := ih fun y hy => h y (List.mem_cons_of_mem _ hy)
    simp only [List.map_cons, PyData.canLayAll0, PyData.canLay0, Bool.and_eq_true]
    exact ⟨h1, h2⟩
theorem depth_strs (ns : List Str) : PyData.depthAll (ns.map PyData.str) ≤ 1 := by
  induction ns with
  | nil => simp [PyData.depthAll]
  | cons x r ih => simp [PyData.depthAll, PyData.depth]; omega
theorem shaped_strs (ns : List Str) (h : ∀ x ∈ ns, okS x) : SeqAt.shaped (.list (ns.map PyData.str)) = true := by
  have h1 := canLay_strs ns h
  have h2 := depth_strs ns
  simp [SeqAt.shaped, PyData.canLay0, PyData.depth, h1]
  omega
theorem eqv_nilS (ns : List Str) : PyData.eqv (.list (ns.map PyData.str)) (.list []) = ns.isEmpty := by
  cases ns <;> simp [PyData.eqv, PyData.eqvAll]
theorem upd_upd {H : Hp} {p : Addr} {o o' : HO} : upd (upd H p o) p o' = upd H p o' := by
  funext q
  by_cases e : q = p
  · rw [e, upd_same, upd_same]
  · rw [upd_ne e, upd_ne e, upd_ne e]
theorem blank_signs (y : Str) : (((tl y).filter fun c => !(c == 32 || c == 9)).map fun c => (⟨#[c]⟩ : Str)).isEmpty = isBlank (tl y) := by
  unfold isBlank
  induction tl y with
  | nil => rfl
  | cons c r ih =>
    rw [List.filter_cons, List.all_cons]
    cases h : (c == 32 || c == 9) with
    | true => exact ih
    | false => rfl
theorem in_blanks (c : Nat) : decide (c ∈ (" \t" : Str).cps.toList) = (c == 32 || c == 9) := by
  have e : (" \t" : Str).cps.toList = [32, 9] := by decide +kernel
  rw [e, Bool.eq_iff_iff]
  simp
theorem in_white (c : Nat) : decide (c ∈ (" \t\n" : Str).cps.toList) = (c == 32 || (c == 9 || c == 10)) := by
  have e : (" \t\n" : Str).cps.toList = [32, 9, 10] := by decide +kernel
  rw [e, Bool.eq_iff_iff]
  simp
theorem split_ok {x : Str} {y : List Nat} (hy : y ≠ []) (h : y.all (· < 256) = true) (hx : okS x) {z : Str} (hz : z ∈ Txt.split x ⟨y.toArray⟩) : okS z := by
  rw [okS_iff] at hx ⊢
  intro c hc
  refine hx c ?_
  have e := joinL_spl (tl x) hy h
  rw [← splitOf x hy h] at e
  have : ∀ ps : List Str, z ∈ ps → c ∈ joinL y (ps.map tl) := by
    intro ps
    induction ps with
    | nil => intro h; cases h
    | cons a r ih =>
      intro h
      cases r with
      | nil =>
        have : z = a := by simpa using h
        subst this
        exact hc
      | cons b r =>
        show c ∈ tl a ++ (y ++ joinL y ((b :: r).map tl))
        rcases List.mem_cons.mp h with e | e
        · subst e
          exact List.mem_append_left _ hc
        · exact List.mem_append_right _ (List.mem_append_right _ (ih e))
  have := this _ hz
  rw [e] at this
  exact this
section
variable {P : Program} {w : World} {K : PySem.W.Frag} {mg : Str → Option Value} {base : Heap}
def clearedL (b : Bool) (l : List Nat) : Bool := if b = true then isMark l else isBlank l
def sp_law_cleared : Sp := fun vs H Q _ => ∃ (x : Str) (b : Bool), vs = [.str x, .bl b] ∧ x.length ≤ 1000000 ∧ okS x ∧ ∀ H', Same H H' → Q (.str ⟨(if b = true then marksOf (tl x) else blanksOf (tl x)).toArray⟩) H'
end

/-! ### texts of lists of signs -/
def mk (l : List Nat) : Str := ⟨l.toArray⟩
theorem tl_mk' (l : List Nat) : tl (mk l) = l := rfl
theorem mk_tl' (x : Str) : mk (tl x) = x := ext_tl rfl
theorem mk_len (l : List Nat) : (mk l).length = l.length := by rw [len_tl]; rfl
theorem join_mk (y : List Nat) (ps : List (List Nat)) : Txt.join (mk y) (ps.map mk) = mk (joinL y ps) := by
  refine ext_tl ?_
  rw [join_eq, tl_join, List.map_map]
  show joinL y (ps.map (tl ∘ mk)) = joinL y ps
  have : (tl ∘ mk) = id := by
    funext l
    rfl
  rw [this, List.map_id]
theorem take_filter {α : Type} (p : α → Bool) {l : List α} {i : Nat} {a : α} (h : l[i]? = some a) : (l.take (i + 1)).filter p = (l.take i).filter p ++ (if p a then [a] else []) := by
  rw [List.take_add_one, h, List.filter_append]
  show _ ++ List.filter p [a] = _
  rw [List.filter_cons]
  rfl

/-! ### small words on texts that are drawn and joined -/
theorem len_app (x y : Str) : (x ++ y).length = x.length + y.length := by
  rw [len_tl, tl_append, List.length_append, ← len_tl, ← len_tl]
theorem okS_app {x y : Str} (hx : okS x) (hy : okS y) : okS (x ++ y) := by
  rw [okS_iff] at hx hy ⊢
  intro c hc
  rw [tl_append] at hc
  exact (List.mem_append.mp hc).elim (hx c) (hy c)
theorem okS_join {y : Str} (hy : okS y) : ∀ ws : List Str, (∀ w ∈ ws, okS w) → okS (Txt.join y ws) := by
  intro ws h
  rw [okS_iff] at hy ⊢
  rw [join_eq, tl_join]
  induction ws with
  | nil => intro c hc; cases hc
  | cons a r ih =>
    have ha := okS_iff.mp (h a (List.mem_cons_self ..))
    have ihr := ih fun w hw => h w (List.mem_cons_of_mem _ hw)
    cases r with
    | nil => exact ha
    | cons b r =>
      show ∀ c ∈ tl a ++ (tl y ++ joinL (tl y) ((b :: r).map tl)), c < 1114112
      intro c hc
      rcases List.mem_append.mp hc with h1 | h1
      · exact ha c h1
      · rcases List.mem_append.mp h1 with h2 | h2
        · exact hy c h2
        · exact ihr c h2
theorem ok_ascii {x : Str} (h : (tl x).all (· < 128) = true) : okS x := by
  rw [okS_iff]
  intro c hc
  have := of_decide_eq_true (List.all_eq_true.mp h c hc)
  omega
theorem menu_of {l : List Str} {m : Nat} (h : l.all (fun x => (tl x).all (· < 128) && decide (x.length ≤ m)) = true) {x : Str} (hx : x ∈ l) : okS x ∧ x.length ≤ m := by
  have := List.all_eq_true.mp h x hx
  rw [Bool.and_eq_true, decide_eq_true_eq] at this
  exact ⟨ok_ascii this.1, this.2⟩
theorem cutV_strs (fs : List Str) (lo hi : Option Int) : ∃ cs : List Str, cutV (fs.map V.str) lo hi = cs.map V.str ∧ (∀ x ∈ cs, x ∈ fs) ∧ cs.length ≤ fs.length := by
  refine ⟨(fs.drop (HT.sIx (fs.map V.str).length 0 lo)).take (HT.sIx (fs.map V.str).length (fs.map V.str).length hi - HT.sIx (fs.map V.str).length 0 lo), ?_, fun x hx => List.mem_of_mem_drop (List.mem_of_mem_take hx), ?_⟩
  · unfold cutV
    rw [List.map_take, List.map_drop]
  · rw [List.length_take, List.length_drop]
    omega
theorem fresh_ne {H : Hp} {D A B p : Addr} {n : Int} (d : Drw H D A B n) (h : H p = none) : p ≠ D ∧ p ≠ A := by
  obtain ⟨⟨_, e1⟩, ⟨_, e2⟩, _⟩ := d.tracked
  exact ⟨(ne_of_none e1 h).symm, (ne_of_none e2 h).symm⟩

/-! ### (*xs, y) = a list -/
section
variable {prog : Program} {w : World} {A : Around} {E : Value → Shared → Prop} {s : Shared}
theorem star_front {l : Addr} {items : Array Value} {Q : List Value → Shared → Prop} (hl : s.heap.IsList l items) (hh : A.handled = none) (h1 : 1 ≤ items.size) (hz : items.size ≤ 16384)
    (h : ∀ (h' : Heap) (tk : Nat), (∀ b o, s.heap.get? b = some o → h'.get? b = some o) →
      Q (.ref h'.objs.size :: items.toList.drop (items.size - 1)) { s with heap := h'.push { cls := .type "list", data := .seq (items.toList.take (items.size - 1)).toArray }, toks := tk }) :
    wpAny (model prog w) A (unpackItems (.ref l) 2 (some 0)) Q E s := by
  have hl2 := hl
  obtain ⟨ob, hob, _⟩ := hl2
  have sz := Heap.lt_size hob
  have ne : l ≠ s.heap.objs.size := Nat.ne_of_lt sz
  unfold unpackItems notIterableAtAll
  refine wpAny_bind (wpAny_bind (wpAny_specialOf hl.typeIs slot_list_iter.lookup (wpAny_pure ?_)))
  rw [if_neg (by decide)]
  refine wpAny_bind (wpAny_holding (wpAny_pyIter_list hl (wpAny_bind (wpAny_holding (wpAny_pure ?_)))))
  rw [if_neg (Nat.not_lt_zero _)]
  refine wpAny_bind (wpAny_holding (PySem.W.kun_collect (T := "list_iterator") (items := items) (.inr (.inr (.inl rfl))) (Walks.list (A := A.in1) hh s.heap.objs.size l ne items) (fun _ _ z => z.1.typeIs) (k := 0) (Nat.zero_le _) ⟨⟨_, Heap.get?_push_size _ rfl, rfl, rfl⟩, hl.push _⟩ ?_ ?_ (fun h2 tk kp => ?_) ?_))
  · rw [Heap.size_push]
    exact Nat.lt_succ_self _
  · rw [Heap.size_push]
    exact Nat.lt_succ_of_lt sz
  · have ln : items.toList.length = items.size := Array.length_toList
    rw [List.drop_zero]
    show wpAny _ _ (if items.toList.length < 1 then _ else _) _ _ _
    rw [if_neg (by omega)]
    refine wpAny_bind (wpAny_newList (wpAny_pure ?_) ?_)
    · show Q ([] ++ [Value.ref h2.objs.size] ++ items.toList.drop (items.toList.length - 1)) _
      rw [ln]
      exact h h2 tk fun b o e => kp b o (Nat.ne_of_lt (Heap.lt_size e)) (Heap.get?_push_of_some _ e)
    · rw [List.length_take, sizeLine_eq]
      omega
  · rw [sizeLine_eq]
    omega
end
theorem vals_last : ∀ {xs : List V} {y : V} {its : List Value}, Vals (xs ++ [y]) its → ∃ us z, its = us ++ [z] ∧ Vals xs us ∧ RelV y z
  | [], y, its, h => by
    cases h with
    | cons r rr =>
      cases rr
      exact ⟨[], _, rfl, .nil, r⟩
  | x :: xs, y, its, h => by
    cases h with
    | cons r rr =>
      obtain ⟨us, z, e, a, b⟩ := vals_last rr
      exact ⟨_ :: us, z, by rw [e]; rfl, .cons r a, b⟩
def gStar (K : PySem.W.Frag) (t : TGs) : TG := fun v σ H Q => ∃ (l : Addr) (xs : List V) (y : V), v = .ref l ∧ SqL K H l (xs ++ [y]) ∧ xs.length ≤ 16000 ∧ ∀ D, H D = none → t [.ref D, y] σ (upd H D (.lst xs)) Q
theorem pg_star {X : Cx} {e f : Expr} {k : Nat} {p pos : Pos} {t : TGs} (hc : X.calm = true) (h : PGs X [e, f] t)
    (hn : (assignEach [.Starred e p, f] X.env).length = 2 := by rfl) (hst : (assignEach [.Starred e p, f] X.env).findIdx? (·.1) = some 0 := by rfl)
    (hm : (assignEach [.Starred e p, f] X.env).map (·.2) = (assignEach [e, f] X.env).map (·.2) := by rfl) : PG X (.Tuple [.Starred e p, f] k pos) (gStar X.K t) := by
  refine ⟨fun pins s σ H v u Q I r hw => ?_⟩
  obtain ⟨l, xs, y, e1, hq, hz, hw⟩ := hw
  subst e1
  cases r
  obtain ⟨its, rv, ht, hz2⟩ := I.list hq
  obtain ⟨us, z, rfl, r1, r2⟩ := vals_last rv
  have lu : xs.length = us.length := r1.length
  have sz : (us ++ [z]).toArray.size = us.length + 1 := by simp
  rw [assign_Tuple]
  refine wpAny_bind (wpAny_standAt ?_)
  unfold unpack
  rw [hn, hst]
  refine wpAny_bind (wpAny_holding (star_front ht.isList (I.ok.hd hc) (by omega) (by omega) fun h' tk kp => ?_))
  rw [hm, sz]
  have e1 : (us ++ [z]).toArray.toList.take (us.length + 1 - 1) = us := by simp
  have e2 : (us ++ [z]).toArray.toList.drop (us.length + 1 - 1) = [z] := by simp
  rw [e1, e2]
  have I1 : Inv X pins σ H { s with heap := h', toks := tk } := I.kept (t' := tk) kp
  have hf : H h'.objs.size = none := I1.hok.fresh (Nat.le_refl _)
  have I2 : Inv X pins σ (upd H h'.objs.size (.lst xs)) { s with heap := h'.push { cls := .type "list", data := .seq us.toArray }, toks := tk } := I1.laid (t' := tk) (fun b u q => Heap.get?_push_of_some _ q) (Nat.le_refl _) ⟨by rw [sizeLine_eq]; omega, us, 0, r1, Heap.get?_push_size _ rfl⟩
  exact h.run pins _ σ _ [.ref h'.objs.size, y] [.ref h'.objs.size, z] Q I2 (.cons rfl (.cons r2 .nil)) (hw _ hf)

/-! ### the mathematics of texts moved in and marked -/
def SP4 : List Nat := [32, 32, 32, 32]
def ind (y : List Nat) : List Nat := if y.isEmpty = true then [] else SP4 ++ y
def mov : Bool → List Nat → List Nat
  | _, [] => []
  | b, c :: r => (if (b && !(c == 10)) = true then SP4 else []) ++ c :: mov (c == 10) r
theorem pre_one (c d : Nat) (r : List Nat) : pre [c] (d :: r) = (d == c) := by
  show ([d] == [c]) = _
  rw [Bool.eq_iff_iff]
  simp
theorem joinL_cons (S a : List Nat) {ps : List (List Nat)} (h : ps ≠ []) : joinL S (a :: ps) = a ++ (S ++ joinL S ps) := by
  cases ps with
  | nil => exact absurd rfl h
  | cons b r => rfl
theorem ind_mov : ∀ (l a : List Nat), joinL [10] ((spl [10] 0 a l).map ind) = ind a ++ mov a.isEmpty l
  | [], a => by
    show ind a = ind a ++ []
    rw [List.append_nil]
  | c :: r, a => by
    unfold spl
    rw [pre_one]
    unfold mov
    cases h : (c == 10) with
    | true =>
      show joinL [10] (ind a :: (spl [10] 0 [] r).map ind) = _
      have hc : c = 10 := eq_of_beq h
      rw [joinL_cons _ _ (by intro e; exact spl_ne [10] 0 [] r (List.map_eq_nil_iff.mp e)), ind_mov r [], hc]
      cases a.isEmpty <;> rfl
    | false =>
      show joinL [10] ((spl [10] 0 (a ++ [c]) r).map ind) = _
      rw [ind_mov r (a ++ [c])]
      cases a with
      | nil => rfl
      | cons x t =>
        show SP4 ++ (x :: (t ++ [c])) ++ mov false r = SP4 ++ (x :: t) ++ ([] ++ c :: mov false r)
        simp
def movst (s : List Nat × Bool) (c : Nat) : List Nat × Bool := (s.1 ++ (if (s.2 && !(c == 10)) = true then SP4 else []) ++ [c], c == 10)
theorem mov_fold : ∀ (l acc : List Nat) (b : Bool), (l.foldl movst (acc, b)).1 = acc ++ mov b l
  | [], acc, b => by
    show acc = acc ++ []
    rw [List.append_nil]
  | c :: r, acc, b => by
    rw [List.foldl_cons]
    show (r.foldl movst (acc ++ (if (b && !(c == 10)) = true then SP4 else []) ++ [c], c == 10)).1 = acc ++ ((if (b && !(c == 10)) = true then SP4 else []) ++ c :: mov (c == 10) r)
    rw [mov_fold r, List.append_assoc, List.append_assoc]
    rfl
theorem mov_len : ∀ (l : List Nat) (b : Bool), (mov b l).length ≤ 5 * l.length
  | [], _ => Nat.zero_le _
  | c :: r, b => by
    have ih := mov_len r (c == 10)
    unfold mov
    rw [List.length_append, List.length_cons, List.length_cons]
    have : (if (b && !(c == 10)) = true then SP4 else []).length ≤ 4 := by
      cases (b && !(c == 10)) <;> decide
    omega
def bare (y : List Nat) : Bool := y.all fun c => c == 32
def mkl (y : List Nat) : List Nat := if bare y = true then MK else y
def markI : List (List Nat) → List (List Nat)
  | [] => []
  | [p] => [p]
  | p :: q :: r => mkl p :: markI (q :: r)
theorem markI_ne : ∀ {ps : List (List Nat)}, ps ≠ [] → markI ps ≠ []
  | [], h => absurd rfl h
  | [p], _ => by simp [markI]
  | p :: q :: r, _ => by simp [markI]
theorem markI_cons (p : List Nat) {ps : List (List Nat)} (h : ps ≠ []) : markI (p :: ps) = mkl p :: markI ps := by
  cases ps with
  | nil => exact absurd rfl h
  | cons b r => rfl
theorem markI_last : ∀ (ps : List (List Nat)) (z : List Nat), markI (ps ++ [z]) = ps.map mkl ++ [z]
  | [], z => rfl
  | p :: r, z => by
    show markI (p :: (r ++ [z])) = mkl p :: (r.map mkl ++ [z])
    rw [markI_cons p (by simp), markI_last r z]
def mkd : List Nat → List Nat → List Nat
  | a, [] => a
  | a, c :: r => if (c == 10) = true then mkl a ++ 10 :: mkd [] r else mkd (a ++ [c]) r
theorem mark_mkd : ∀ (l a : List Nat), joinL [10] (markI (spl [10] 0 a l)) = mkd a l
  | [], a => rfl
  | c :: r, a => by
    unfold spl mkd
    rw [pre_one]
    cases (c == 10) with
    | true =>
      show joinL [10] (markI (a :: spl [10] 0 [] r)) = mkl a ++ 10 :: mkd [] r
      rw [markI_cons a (spl_ne [10] 0 [] r), joinL_cons _ _ (markI_ne (spl_ne [10] 0 [] r)), mark_mkd r []]
      rfl
    | false => exact mark_mkd r (a ++ [c])
def mkst (s : List Nat × List Nat) (c : Nat) : List Nat × List Nat := if (c == 10) = true then (s.1 ++ (mkl s.2 ++ [10]), []) else (s.1, s.2 ++ [c])
theorem mkd_fold : ∀ (l f a : List Nat), (l.foldl mkst (f, a)).1 ++ (l.foldl mkst (f, a)).2 = f ++ mkd a l
  | [], f, a => rfl
  | c :: r, f, a => by
    rw [List.foldl_cons]
    unfold mkst mkd
    cases (c == 10) with
    | true =>
      show (r.foldl mkst (f ++ (mkl a ++ [10]), [])).1 ++ (r.foldl mkst (f ++ (mkl a ++ [10]), [])).2 = f ++ (mkl a ++ 10 :: mkd [] r)
      rw [mkd_fold r]
      simp
    | false => exact mkd_fold r f (a ++ [c])
theorem mkl_len (y : List Nat) : (mkl y).length ≤ y.length + 11 := by
  unfold mkl
  cases bare y with
  | true =>
    show 11 ≤ _
    omega
  | false =>
    show y.length ≤ _
    omega
theorem mkst_len : ∀ (l : List Nat) (s : List Nat × List Nat), (l.foldl mkst s).1.length + (l.foldl mkst s).2.length ≤ s.1.length + s.2.length + 12 * l.length
  | [], s => Nat.le_refl _
  | c :: r, s => by
    have ih := mkst_len r (mkst s c)
    rw [List.foldl_cons, List.length_cons]
    refine Nat.le_trans ih ?_
    unfold mkst
    cases (c == 10) with
    | true =>
      have := mkl_len s.2
      show (s.1 ++ (mkl s.2 ++ [10])).length + 0 + _ ≤ _
      rw [List.length_append, List.length_append]
      show s.1.length + ((mkl s.2).length + 1) + 0 + _ ≤ _
      omega
    | false =>
      show s.1.length + (s.2 ++ [c]).length + _ ≤ _
      rw [List.length_append]
      show s.1.length + (s.2.length + 1) + _ ≤ _
      omega
theorem mkd_len (l : List Nat) : (mkd [] l).length ≤ 12 * l.length := by
  have e := mkd_fold l [] []
  have h := mkst_len l ([], [])
  rw [List.nil_append] at e
  rw [← e, List.length_append]
  have h' : (l.foldl mkst ([], [])).1.length + (l.foldl mkst ([], [])).2.length ≤ 0 + 0 + 12 * l.length := h
  omega
def toldL (h t : List Nat) : List Nat := if t.isEmpty = true then h ++ tl " nothing\n" else h ++ (tl ":\n" ++ mov true t)
theorem strip_sp (x : Str) : ((Txt.stripChars x ⟨#[32]⟩).length = 0) ↔ bare (tl x) = true := by
  unfold Txt.stripChars
  rw [strip_blank]
  unfold bare
  have e : (fun c => (#[32] : Array Nat).contains c) = fun c => (c == 32) := by
    funext c
    rw [Bool.eq_iff_iff, Array.contains_iff_mem]
    simp
  show (tl x).all (fun c => (#[32] : Array Nat).contains c) = true ↔ _
  rw [e]
theorem lenNe {x : Str} : (((x.length : Int) != 0)) = !(tl x).isEmpty := by
  rw [len_tl]
  cases tl x with
  | nil => rfl
  | cons a r =>
    rw [List.length_cons]
    show (((r.length + 1 : Nat) : Int) != 0) = true
    rw [bne_iff_ne]
    omega

/-! ### the program's own -/
def indS (z : Str) : Str := mk (ind (tl z))
theorem ind_len (y : List Nat) : (ind y).length ≤ y.length + 4 := by
  unfold ind
  cases h : y.isEmpty with
  | true => exact Nat.zero_le _
  | false =>
    show (SP4 ++ y).length ≤ _
    rw [List.length_append]
    show 4 + y.length ≤ _
    omega
theorem sp4_eq : tl ("    " : Str) = SP4 := by decide +kernel
theorem tl_nl : tl ("\n" : Str) = [10] := by decide +kernel
theorem tl_empty : tl ("" : Str) = [] := by decide +kernel
theorem len_nl : ("\n" : Str).length = 1 := by decide +kernel
theorem last_of {α : Type} : ∀ (l : List α), l ≠ [] → ∃ i z, l = i ++ [z]
  | [], h => absurd rfl h
  | [a], _ => ⟨[], a, rfl⟩
  | a :: b :: r, _ => by
    obtain ⟨i, z, e⟩ := last_of (b :: r) (by simp)
    exact ⟨a :: i, z, by rw [e]; rfl⟩
section
variable {P : Program} {w : World} {K : PySem.W.Frag} {mg : Str → Option Value} {base : Heap}
def sp_indented : Sp := fun vs H Q _ => ∃ x : Str, vs = [.str x] ∧ x.length ≤ 2000 ∧ ∀ (H' : Hp) (s : Str), Same H H' → tl s = mov true (tl x) → Q (.str s) H'
theorem ok_indented {f : Addr} {fd : FuncData} {dvs : List V} (F : Fn K "indented" s_indented dvs f fd) : FnOk P w K mg base CX0 1 f fd ["text"] (sp_indented) := by
  refine Fn.okN F sc_indented (fun vs H Q E h => ?_) (fun cdv A outer s H vs Q E hr h => ?_)
  · obtain ⟨_, rfl, _⟩ := h
    rfl
  · obtain ⟨x, rfl, hx, k⟩ := h
    refine ⟨_, (pss_one (ps_ret (pe_m1 PySem.F.slot_str_join PySem.F.type_str_join mt_join pe_str (pe_lc (own := [("line", 1)]) (g := gName 1) (tt := tYes) (by rfl) sc_indented.nd (pi_list (pe_m1 PySem.F.slot_str_split PySem.F.type_str_split mt_split (pv 0) pe_str)) (blkOk_by (own := [("line", 1)]) (N := ["text", "line"]) (sc := defScope s_indented) (by decide +kernel)) (fun _ _ _ _ _ => (pg_name (i := 1) sc_indented.nd rfl (.inl rfl))) (fun _ _ _ _ _ => pts_nil) (fun _ _ _ _ _ => (pe_ifExp (pt_tr (K' := K) (pv 1)) (pe_op op_add_str pe_str (pv 1)) pe_str)))))), ?_⟩
    have sz := split_sizes x (y := [10]) (by simp) (by decide)
    refine ⟨⟨_, rfl⟩, .str x, rfl, ⟨_, rfl⟩, x, "\n", rfl, rfl, by decide +kernel, by rw [sizeLine_eq]; omega, fun p np => ?_⟩
    rw [nl_eq]
    have s1 := same_new (o := .lst ((Txt.split x ⟨[10].toArray⟩).map V.str)) np
    have e1 : (upd H p (.lst ((Txt.split x ⟨[10].toArray⟩).map V.str))) p = some (.lst ((Txt.split x ⟨[10].toArray⟩).map V.str)) := upd_same
    generalize upd H p (.lst ((Txt.split x ⟨[10].toArray⟩).map V.str)) = H1 at s1 e1 ⊢
    refine ⟨p, rfl, ⟨_, SqL.of e1⟩, fun F nF => ?_⟩
    refine lc_list (K := K) (a := p) (xs := (Txt.split x ⟨[10].toArray⟩).map V.str) (fun i H2 => H2 F = some (.lst ((((Txt.split x ⟨[10].toArray⟩).take i).map indS).map V.str)) ∧ Same H1 H2) ⟨upd_same, same_new nF⟩ (fun i H2 _ h => SqL.of (h.2 _ _ e1)) ?_ ?_
    · rintro i v H2 hv ⟨eF, s2⟩
      obtain ⟨z, rfl, hz⟩ := str_at hv
      have hi : i < (Txt.split x ⟨[10].toArray⟩).length := (List.getElem?_eq_some_iff.mp hz).1
      have zl := split_mem x (y := [10]) (by simp) (by decide) (List.mem_of_getElem? hz)
      refine ⟨rfl, ?_⟩
      unfold tYes
      show ite (true = true) _ _
      rw [if_pos rfl]
      have fin : ∀ r : Str, r = indS z → ∃ acc, H2 F = some (.lst acc) ∧ acc.length < sizeLine ∧ (upd H2 F (.lst (acc ++ [V.str r]))) F = some (.lst ((((Txt.split x ⟨[10].toArray⟩).take (i + 1)).map indS).map V.str)) ∧ Same H1 (upd H2 F (.lst (acc ++ [V.str r]))) := by
        rintro r rfl
        refine ⟨_, eF, by rw [List.length_map, List.length_map, List.length_take, sizeLine_eq]; omega, ?_, fun b o e => ?_⟩
        · rw [upd_same, take_map _ hz, List.map_append]
          rfl
        · rw [upd_ne (ne_of_none e nF)]
          exact s2 _ _ e
      refine ⟨.str z, rfl, _, ⟨line_of (by omega), rfl⟩, ?_⟩
      rw [lenNe]
      cases h0 : (tl z).isEmpty with
      | true =>
        refine iteF (fin "" (ext_tl ?_))
        show tl "" = ind (tl z)
        unfold ind
        rw [h0, tl_empty]
        rfl
      | false =>
        refine iteT ⟨.str z, rfl, "    ", z, rfl, rfl, ?_, fin _ (ext_tl ?_)⟩
        · rw [show ("    " : Str).length = 4 from by decide +kernel, sizeLine_eq]
          omega
        · show tl ("    " ++ z) = ind (tl z)
          unfold ind
          rw [h0, tl_append, sp4_eq]
          rfl
    · rintro H2 ⟨eF, s2⟩
      rw [List.length_map, List.take_length] at eF
      have b1 := sum_len 2004 ((Txt.split x ⟨[10].toArray⟩).map indS) fun y hy => by
        obtain ⟨z, hz, rfl⟩ := List.mem_map.mp hy
        have zl := split_mem x (y := [10]) (by simp) (by decide) hz
        have := ind_len (tl z)
        rw [← len_tl] at this
        unfold indS
        rw [mk_len]
        omega
      rw [List.length_map] at b1
      refine ⟨⟨[10].toArray⟩, F, _, rfl, rfl, .inl (SqL.of eF), ?_, ?_⟩
      · rw [List.length_map]
        show _ + _ * 1 ≤ _
        omega
      · refine k H2 _ (s1.trans s2) ?_
        rw [join_eq, tl_join, List.map_map]
        show joinL [10] ((Txt.split x ⟨[10].toArray⟩).map (tl ∘ indS)) = _
        rw [show (tl ∘ indS) = ind ∘ tl from rfl, ← List.map_map, splitOf x (y := [10]) (by simp) (by decide), ind_mov]
        rfl
def sp_told : Sp := fun vs H Q _ => ∃ (h x : Str), vs = [.str h, .str x] ∧ h.length ≤ 100 ∧ x.length ≤ 2000 ∧ ∀ (H' : Hp) (s : Str), Same H H' → tl s = toldL (tl h) (tl x) → s.length ≤ 12000 → Q (.str s) H'
theorem ok_told {f : Addr} {fd : FuncData} {dvs : List V} (F : Fn K "told" s_told dvs f fd) (O_indented : Own P w K mg base "indented" 1 ["text"] [] (sp_indented)) : FnOk P w K mg base CX0 2 f fd ["head", "text"] (sp_told) := by
  refine Fn.okN F sc_told (fun vs H Q E h => ?_) (fun cdv A outer s H vs Q E hr h => ?_)
  · obtain ⟨_, _, rfl, _⟩ := h
    rfl
  · obtain ⟨h, x, rfl, hh, hx, k⟩ := h
    refine ⟨_, (pss_cons (ps_if (pt_not (pt_tr (K' := K) (pv 1)))
          (pss_one (ps_ret (pe_joined (PJ.cons (pe_fmt (pv 0)) (PJ.cons pe_str PJ.nil)))))
          pss_nil)
      (pss_one (ps_ret (pe_joined (PJ.cons (pe_fmt (pv 0)) (PJ.cons pe_str (PJ.cons (pe_fmt (pe_own O_indented (hr.mono (by decide)) (by rfl) (pa_cons (pv 1) pa_nil))) PJ.nil))))))), ?_⟩
    have l0 : Str.empty.length = 0 := rfl
    have l1 : (" nothing\n" : Str).length = 9 := by decide +kernel
    have l2 : (":\n" : Str).length = 2 := by decide +kernel
    have a1 := len_app Str.empty h
    have te : tl Str.empty = [] := rfl
    refine ⟨.str x, rfl, _, ⟨line_of (by omega), rfl⟩, ?_⟩
    rw [lenNe]
    unfold toldL at k
    cases e : (tl x).isEmpty with
    | true =>
      rw [e] at k
      have a2 := len_app (Str.empty ++ h) " nothing\n"
      refine iteT ⟨.str h, rfl, .inl ⟨h, rfl, line_of (by omega), h, rfl, line_of (by omega), " nothing\n", rfl, line_of (by omega), ?_⟩⟩
      exact k H _ (fun _ _ e => e) (by rw [tl_append, tl_append, te]; rfl) (by omega)
    | false =>
      rw [e] at k
      have a2 := len_app (Str.empty ++ h) ":\n"
      refine iteF ⟨.str h, rfl, .inl ⟨h, rfl, line_of (by omega), h, rfl, line_of (by omega), ":\n", rfl, line_of (by omega), .str x, rfl, x, rfl, hx, fun H1 s s1 es => ?_⟩⟩
      have ls : s.length ≤ 10000 := by
        rw [len_tl, es]
        have := mov_len (tl x) true
        rw [← len_tl] at this
        omega
      have a3 := len_app (Str.empty ++ h ++ ":\n") s
      refine .inl ⟨s, rfl, line_of (by omega), s, rfl, line_of (by omega), ?_⟩
      exact k H1 _ s1 (by rw [tl_append, tl_append, tl_append, te, es]; simp) (by omega)
def markS (z : Str) : Str := mk (mkl (tl z))
def sp_blanks_marked : Sp := fun vs H Q _ => ∃ x : Str, vs = [.str x] ∧ x.length ≤ 150 ∧ ∀ (H' : Hp) (s : Str), Same H H' → tl s = mkd [] (tl x) → Q (.str s) H'
theorem ok_blanks_marked {f : Addr} {fd : FuncData} {dvs : List V} (F : Fn K "blanks_marked" s_blanks_marked dvs f fd) {t_MARK : Tok} (c_MARK : mg "MARK" = some (.str "<BLANKLINE>" t_MARK)) : FnOk P w K mg base CX0 1 f fd ["got"] (sp_blanks_marked) := by
  refine Fn.okN F sc_blanks_marked (fun vs H Q E h => ?_) (fun cdv A outer s H vs Q E hr h => ?_)
  · obtain ⟨_, rfl, _⟩ := h
    rfl
  · obtain ⟨x, rfl, hx, k⟩ := h
    refine ⟨_, (pss_cons (ps_asg (pe_m1 PySem.F.slot_str_split PySem.F.type_str_split mt_split (pv 0) pe_str) (pg_star rfl (pgs_cons (pg_name (i := 1) sc_blanks_marked.nd rfl (.inl rfl)) (pgs_cons (pg_name (i := 2) sc_blanks_marked.nd rfl (.inl rfl)) pgs_nil))))
      (pss_one (ps_ret (pe_m1 PySem.F.slot_str_join PySem.F.type_str_join mt_join pe_str (pe_op op_cat (pe_lc (own := [("line", 3)]) (g := gName 3) (tt := tYes) (by rfl) sc_blanks_marked.nd (pi_list (pv 1)) (blkOk_by (own := [("line", 3)]) (N := ["got", "lines", "rest", "line"]) (sc := defScope s_blanks_marked) (by decide +kernel)) (fun _ _ _ _ _ => (pg_name (i := 3) sc_blanks_marked.nd rfl (.inl rfl))) (fun _ _ _ _ _ => pts_nil) (fun _ _ _ _ _ => (pe_ifExp (pt_tr (K' := K) (pe_m1 PySem.F.slot_str_strip PySem.F.type_str_strip mt_stripChars (pv 3) pe_str)) (pv 3) (pe_glob (v := .str "<BLANKLINE>") rfl c_MARK ⟨_, rfl⟩)))) (pe_lst (pa_cons (pv 2) pa_nil))))))), ?_⟩
    have sz := split_sizes x (y := [10]) (by simp) (by decide)
    have e0 := splitOf x (y := [10]) (by simp) (by decide)
    obtain ⟨ini, fin, hs⟩ := last_of (Txt.split x ⟨[10].toArray⟩) (by
      intro e
      rw [e] at e0
      exact spl_ne [10] 0 [] (tl x) e0.symm)
    have zl : ∀ z ∈ ini, z.length ≤ 150 := fun z hz => Nat.le_trans (split_mem x (y := [10]) (by simp) (by decide) (by rw [hs]; exact List.mem_append_left _ hz)) hx
    have fl : fin.length ≤ 150 := Nat.le_trans (split_mem x (y := [10]) (by simp) (by decide) (by rw [hs]; simp)) hx
    have li : ini.length ≤ 150 := by
      have := sz.2
      rw [hs, List.length_append] at this
      have h1 : [fin].length = 1 := rfl
      omega
    refine ⟨.str x, rfl, ⟨_, rfl⟩, x, "\n", rfl, rfl, by decide +kernel, by rw [sizeLine_eq]; omega, fun p np => ?_⟩
    rw [nl_eq, hs]
    have s1 := same_new (o := .lst ((ini ++ [fin]).map V.str)) np
    have e1 : (upd H p (.lst ((ini ++ [fin]).map V.str))) p = some (.lst ((ini ++ [fin]).map V.str)) := upd_same
    generalize upd H p (.lst ((ini ++ [fin]).map V.str)) = H1 at s1 e1 ⊢
    rw [List.map_append] at e1
    refine ⟨p, ini.map V.str, .str fin, rfl, SqL.of e1, by rw [List.length_map]; omega, fun D nD => ?_⟩
    have s2 := same_new (o := .lst (ini.map V.str)) nD
    have e2 : (upd H1 D (.lst (ini.map V.str))) D = some (.lst (ini.map V.str)) := upd_same
    have s12 := s1.trans s2
    generalize upd H1 D (.lst (ini.map V.str)) = H2 at s12 e2 ⊢
    refine ⟨_, _, rfl, _, _, rfl, rfl, ?_⟩
    refine ⟨⟨_, rfl⟩, .ref D, rfl, D, rfl, ⟨_, SqL.of e2⟩, fun F nF => ?_⟩
    refine lc_list (K := K) (a := D) (xs := ini.map V.str) (fun i H3 => H3 F = some (.lst (((ini.take i).map markS).map V.str)) ∧ Same H2 H3) ⟨upd_same, same_new nF⟩ (fun i H3 _ h => SqL.of (h.2 _ _ e2)) ?_ ?_
    · rintro i v H3 hv ⟨eF, s3⟩
      obtain ⟨z, rfl, hz⟩ := str_at hv
      have hi : i < ini.length := (List.getElem?_eq_some_iff.mp hz).1
      have lz := zl z (List.mem_of_getElem? hz)
      refine ⟨rfl, ?_⟩
      unfold tYes
      show ite (true = true) _ _
      rw [if_pos rfl]
      have fin : ∀ r : Str, r = markS z → ∃ acc, H3 F = some (.lst acc) ∧ acc.length < sizeLine ∧ (upd H3 F (.lst (acc ++ [V.str r]))) F = some (.lst (((ini.take (i + 1)).map markS).map V.str)) ∧ Same H2 (upd H3 F (.lst (acc ++ [V.str r]))) := by
        rintro r rfl
        refine ⟨_, eF, by rw [List.length_map, List.length_map, List.length_take, sizeLine_eq]; omega, ?_, fun b o e => ?_⟩
        · rw [upd_same, take_map _ hz, List.map_append]
          rfl
        · rw [upd_ne (ne_of_none e nF)]
          exact s3 _ _ e
      refine ⟨.str z, rfl, ⟨_, rfl⟩, z, " ", rfl, rfl, line_of (by omega), _, ⟨Nat.le_trans (len_stripBy _ _ _ _) (line_of (by omega)), rfl⟩, ?_⟩
      have hb := strip_sp z
      rw [sp_eq]
      cases hbb : bare (tl z) with
      | true =>
        rw [show (((Txt.stripChars z ⟨[32].toArray⟩).length : Int) != 0) = false by rw [show (Txt.stripChars z ⟨[32].toArray⟩).length = 0 from hb.mpr hbb]; rfl]
        refine iteF (fin _ (ext_tl ?_))
        show tl "<BLANKLINE>" = mkl (tl z)
        unfold mkl
        rw [hbb, mk_eq]
        rfl
      | false =>
        have hne : (Txt.stripChars z ⟨[32].toArray⟩).length ≠ 0 := fun q => by
          rw [hb.mp q] at hbb
          cases hbb
        rw [show (((Txt.stripChars z ⟨[32].toArray⟩).length : Int) != 0) = true by
          rw [bne_iff_ne]
          omega]
        refine iteT ⟨.str z, rfl, fin z (ext_tl ?_)⟩
        show tl z = mkl (tl z)
        unfold mkl
        rw [hbb]
        rfl
    · rintro H3 ⟨eF, s3⟩
      rw [List.length_map, List.take_length] at eF
      refine ⟨.str fin, rfl, by show 1 ≤ sizeLine; decide, fun L nL => ?_⟩
      have s4 := same_new (o := .lst [.str fin]) nL
      have eL : (upd H3 L (.lst [.str fin])) L = some (.lst [.str fin]) := upd_same
      have eF4 := s4 _ _ eF
      have s24 := s3.trans s4
      generalize upd H3 L (.lst [.str fin]) = H4 at eL eF4 s24 ⊢
      refine ⟨F, L, _, _, rfl, rfl, eF4, eL, by rw [List.length_map, List.length_map, sizeLine_eq]; show _ + 1 ≤ _; omega, fun G nG => ?_⟩
      have s5 := same_new (o := .lst ((ini.map markS).map V.str ++ [V.str fin])) nG
      have b1 := sum_len 161 (ini.map markS ++ [fin]) fun y hy => by
        rcases List.mem_append.mp hy with h | h
        · obtain ⟨z, hz, rfl⟩ := List.mem_map.mp h
          have := mkl_len (tl z)
          rw [← len_tl] at this
          have := zl z hz
          unfold markS
          rw [mk_len]
          omega
        · rw [List.mem_singleton.mp h]
          omega
      have lb : (ini.map markS ++ [fin]).length ≤ 151 := by
        rw [List.length_append, List.length_map]
        show _ + 1 ≤ _
        omega
      refine ⟨⟨[10].toArray⟩, G, ini.map markS ++ [fin], rfl, rfl, .inl (SqL.of (by rw [upd_same, List.map_append]; rfl)), ?_, ?_⟩
      · show _ + _ * 1 ≤ _
        omega
      · refine k _ _ (s12.trans (s24.trans s5)) ?_
        rw [join_eq, tl_join, List.map_append, List.map_map]
        show joinL [10] (ini.map (tl ∘ markS) ++ [tl fin]) = _
        rw [show (tl ∘ markS) = mkl ∘ tl from rfl, ← List.map_map, ← markI_last]
        rw [show ini.map tl ++ [tl fin] = (ini ++ [fin]).map tl by rw [List.map_append]; rfl, ← hs, e0, mark_mkd]
def shownL (xs : List Str) (g : List Nat) : List Nat := if has "DONT_ACCEPT_BLANKLINE" xs = true then g else mkd [] g
def diffL (xs : List Str) (x g : List Nat) : List Nat := toldL (tl "Expected") x ++ toldL (tl "Got") (shownL xs g)
def sp_difference_text (K : PySem.W.Frag) : Sp := fun vs H Q _ => ∃ (x y : Str) (p : Addr) (xs : List Str), vs = [.str x, .str y, .ref p] ∧ x.length ≤ 150 ∧ y.length ≤ 150 ∧ SqA K H p (xs.map V.str) ∧ (∀ z ∈ xs, has z v_FLAGS = true) ∧ ∀ (H' : Hp) (s : Str), Same H H' → tl s = diffL xs (tl x) (tl y) → Q (.str s) H'
theorem ok_difference_text {f : Addr} {fd : FuncData} {dvs : List V} (F : Fn K "difference_text" s_difference_text dvs f fd) (O_require_flags : Own P w K mg base "require_flags" 2 ["flags"] [] (sp_require_flags K)) (O_blanks_marked : Own P w K mg base "blanks_marked" 1 ["got"] [] (sp_blanks_marked)) (O_told : Own P w K mg base "told" 2 ["head", "text"] [] (sp_told)) {t_NO_BLANKLINE : Tok} (c_NO_BLANKLINE : mg "NO_BLANKLINE" = some (.str "DONT_ACCEPT_BLANKLINE" t_NO_BLANKLINE)) : FnOk P w K mg base CX0 3 f fd ["want", "got", "flags"] (sp_difference_text K) := by
  refine Fn.okN F sc_difference_text (fun vs H Q E h => ?_) (fun cdv A outer s H vs Q E hr h => ?_)
  · obtain ⟨_, _, _, _, rfl, _⟩ := h
    rfl
  · obtain ⟨x, y, p, xs, rfl, lx, ly, hp, hf, k⟩ := h
    refine ⟨_, (pss_cons (ps_expr (pe_own O_require_flags (hr.mono (by decide)) (by rfl) (pa_cons (pv 2) pa_nil)))
      (pss_cut (ps_set (i := 3) sc_difference_text.nd rfl (.inl rfl) (pe_ifExp (pt_cmpR op_in_seq (pe_glob (v := .str "DONT_ACCEPT_BLANKLINE") rfl c_NO_BLANKLINE ⟨_, rfl⟩) (pv 2) rfl) (pv 1) (pe_own O_blanks_marked (hr.mono (by decide)) (by rfl) (pa_cons (pv 1) pa_nil))))
      (pss_one (ps_ret (pe_op op_add_str (pe_own O_told (hr.mono (by decide)) (by rfl) (pa_cons pe_str (pa_cons (pv 0) pa_nil))) (pe_own O_told (hr.mono (by decide)) (by rfl) (pa_cons pe_str (pa_cons (pv 3) pa_nil)))))))), ?_⟩
    refine ⟨.ref p, rfl, p, xs, rfl, hp, hf, ?_⟩
    refine ⟨fun σ H1 => ∃ sh : Str, σ = [some (.str x), some (.str y), some (.ref p), some (.str sh)] ∧ Same H H1 ∧ tl sh = shownL xs (tl y), ?_, ?_⟩
    · refine ⟨.ref p, rfl, p, _, rfl, hp, rfl, flat_strs xs, _, rfl, ?_⟩
      rw [inV_str]
      unfold shownL
      cases h : has "DONT_ACCEPT_BLANKLINE" xs with
      | true => exact iteT ⟨.str y, rfl, y, rfl, fun _ _ e => e, rfl⟩
      | false => exact iteF ⟨.str y, rfl, y, rfl, ly, fun H1 s s1 es => ⟨s, rfl, s1, es⟩⟩
    rintro σ H1 ⟨sh, rfl, s1, hsh⟩
    have lsh : sh.length ≤ 2000 := by
      rw [len_tl, hsh]
      unfold shownL
      have := mkd_len (tl y)
      rw [← len_tl] at this
      cases has "DONT_ACCEPT_BLANKLINE" xs with
      | true =>
        show (tl y).length ≤ _
        rw [← len_tl]
        omega
      | false =>
        show (mkd [] (tl y)).length ≤ _
        omega
    refine ⟨.str x, rfl, "Expected", x, rfl, by decide +kernel, by omega, fun H2 a s2 ea la => ⟨.str sh, rfl, "Got", sh, rfl, by decide +kernel, lsh, fun H3 b s3 eb lb => ⟨a, b, rfl, rfl, line_of (by omega), ?_⟩⟩⟩
    refine k H3 _ (s1.trans (s2.trans s3)) ?_
    rw [tl_append, ea, eb, hsh]
    rfl
end

/-! ### flags drawn, flags handed -/
section
variable {P : Program} {w : World} {K : PySem.W.Frag} {mg : Str → Option Value} {base : Heap}
def RULES : List Str := ["DONT_ACCEPT_TRUE_FOR_1", "DONT_ACCEPT_BLANKLINE", "NORMALIZE_WHITESPACE", "ELLIPSIS"]
def sp_law_rules : Sp := fun vs H Q _ => ∃ (D A B : Addr) (n : Int), vs = [.ref D] ∧ Drw H D A B n ∧ n < 900000 ∧
  ∀ (H' : Hp) (p : Addr) (rs : List Str) (n' : Int), Drw H' D A B n' → n' ≤ n + 4 → Kept D A H H' → H p = none → H' p = some (.lst (rs.map V.str)) → (∀ x ∈ rs, x ∈ RULES) → rs.length ≤ 4 → Q (.ref p) H'
/-- the same texts, in any order, some twice -/
def sp_law_handed : Sp := fun vs H Q _ => ∃ (D A B p : Addr) (n : Int) (rs : List Str), vs = [.ref D, .ref p] ∧ Drw H D A B n ∧ n < 900000 ∧ H p = some (.lst (rs.map V.str)) ∧ p ≠ D ∧ p ≠ A ∧ rs.length ≤ 100 ∧ (∀ x ∈ rs, okS x) ∧
  ∀ (H' : Hp) (q : Addr) (xs : List Str) (n' : Int), Drw H' D A B n' → n' ≤ n + rs.length + 2 → Kept D A H H' → SeqO H' q (xs.map V.str) → (∀ x, x ∈ xs ↔ x ∈ rs) → Q (.ref q) H'
theorem mem_erase {α : Type} {l : List α} {j : Nat} {a : α} (h : l[j]? = some a) (x : α) : x ∈ l ↔ x = a ∨ x ∈ l.eraseIdx j := by
  have hj := (List.getElem?_eq_some_iff.mp h).1
  have e : l = l.take j ++ a :: l.drop (j + 1) := by
    have e2 : l[j] = a := (List.getElem?_eq_some_iff.mp h).2
    rw [← e2, List.getElem_cons_drop, List.take_append_drop]
  have e3 : l.eraseIdx j = l.take j ++ l.drop (j + 1) := List.eraseIdx_eq_take_drop_succ _ _
  rw [e3]
  conv => lhs; rw [e]
  simp only [List.mem_append, List.mem_cons]
  constructor
  · rintro (h | h | h)
    · exact .inr (.inl h)
    · exact .inl h
    · exact .inr (.inr h)
  · rintro (h | h | h)
    · exact .inr (.inl h)
    · exact .inl h
    · exact .inr (.inr h)
theorem ok_law_handed {f : Addr} {fd : FuncData} {dvs : List V} (F : Fn K "_law_handed" s_law_handed dvs f fd) (O_law_take : Own P w K mg base "_law_take" 2 ["draws", "size"] [] (sp_law_take)) (m_len : mg "len" = none) (m_list : mg "list" = none) (m_tuple : mg "tuple" = none) : FnOk P w K mg base CX0 3 f fd ["draws", "rules"] (sp_law_handed) := by
  refine Fn.okN F sc_law_handed (fun vs H Q E h => ?_) (fun cdv A outer s H vs Q E hr h => ?_)
  · obtain ⟨_, _, _, _, _, _, rfl, _⟩ := h
    rfl
  · obtain ⟨D, A1, B, p, n, rs, rfl, dr, hn, hp, pD, pA, lr, okr, k⟩ := h
    refine ⟨_, (pss_cons (ps_par (i := 2) (j := 3) (by rfl) sc_law_handed.nd rfl rfl (by decide) rfl rfl (pa_cons (pe_callTy call_list_of (by rfl) m_list (by decide +kernel) (pa_cons (pv 1) pa_nil)) (pa_cons (pe_lst pa_nil) pa_nil)) (by rfl))
      (pss_cons (ps_while PassesOwn.never (pt_cmpR (op_neD hr.units) (pv 2) (pe_lst pa_nil) (nomark _))
          (pss_one (ps_expr (pe_bm PySem.F.plainAttrs_list PySem.F.slot_list_append PySem.F.type_list_append mt_append (pv 3) (pa_cons (pe_bm PySem.F.plainAttrs_list PySem.F.slot_list_pop PySem.F.type_list_pop mt_popAt (pv 2) (pa_cons (pe_own O_law_take (hr.mono (by decide)) (by rfl) (pa_cons (pv 0) (pa_cons (pe_callB call_len_seq (by rfl) m_len PySem.boot_len (pa_cons (pv 2) pa_nil)) pa_nil))) pa_nil)) pa_nil)))))
      (pss_cons (ps_set (i := 3) sc_law_handed.nd rfl (.inl rfl) (pe_op op_cat (pv 3) (pe_slice sl_list (pv 3) po_none (po_some (pe_own O_law_take (hr.mono (by decide)) (by rfl) (pa_cons (pv 0) (pa_cons pe_int pa_nil)))))))
      (pss_one (ps_ret (pe_ix ix_list (pe_lst (pa_cons (pv 3) (pa_cons (pe_callTy call_tuple_of (by rfl) m_tuple (by decide +kernel) (pa_cons (pv 3) pa_nil)) pa_nil))) (pe_own O_law_take (hr.mono (by decide)) (by rfl) (pa_cons (pv 0) (pa_cons pe_int pa_nil))) (fun _ _ => rfl))))))), ?_⟩
    obtain ⟨⟨_, eD⟩, ⟨_, eA⟩, ⟨_, eB⟩⟩ := dr.tracked
    -- left, found
    refine ⟨.ref p, rfl, p, _, rfl, .inl (SqL.of hp), fun Lf nLf => ?_⟩
    have s1 := same_new (o := .lst (rs.map V.str)) nLf
    have eL1 : (upd H Lf (.lst (rs.map V.str))) Lf = some (.lst (rs.map V.str)) := upd_same
    have LD : Lf ≠ D := (ne_of_none eD nLf).symm
    have LA : Lf ≠ A1 := (ne_of_none eA nLf).symm
    have LB : Lf ≠ B := (ne_of_none eB nLf).symm
    generalize upd H Lf (.lst (rs.map V.str)) = H1 at s1 eL1 ⊢
    refine ⟨Nat.zero_le _, fun F nF => ⟨_, _, rfl, ?_⟩⟩
    have s2 := same_new (o := .lst []) nF
    have nF0 : H F = none := s1.free nF
    have FD : F ≠ D := (ne_of_none eD nF0).symm
    have FA : F ≠ A1 := (ne_of_none eA nF0).symm
    have FB : F ≠ B := (ne_of_none eB nF0).symm
    have LF : Lf ≠ F := ne_of_none eL1 nF
    have eF2 : (upd H1 F (.lst [])) F = some (.lst []) := upd_same
    have eL2 := s2 _ _ eL1
    have k2 : Kept D A1 H (upd H1 F (.lst [])) := Kept.of (s1.trans s2)
    have d2 : Drw (upd H1 F (.lst [])) D A1 B n := dr.same (s1.trans s2)
    generalize upd H1 F (.lst []) = H2 at eF2 eL2 k2 d2 ⊢
    refine while_by (fun σ H3 => σ = [some (.ref D), some (.ref p), some (.ref Lf), some (.ref F)] ∧ ∃ (ls fs : List Str) (m : Int), H3 Lf = some (.lst (ls.map V.str)) ∧ H3 F = some (.lst (fs.map V.str)) ∧ Drw H3 D A1 B m ∧ m = n + fs.length ∧ ls.length + fs.length = rs.length ∧ (∀ x, x ∈ rs ↔ x ∈ ls ∨ x ∈ fs) ∧ (∀ b o, H b = some o → b ≠ D → b ≠ A1 → H3 b = some o))
      (fun _ H3 => match H3 Lf with | some (.lst l) => l.length | _ => 0) ⟨rfl, rs, [], n, eL2, eF2, d2, by simp, by simp, fun x => by simp, k2⟩ ?_ ?_
    · rintro σ H3 ⟨rfl, ls, fs, m, eL3, eF3, d3, hm, hlen, hmem, k3⟩
      refine ⟨.ref Lf, rfl, Nat.zero_le _, fun N nN => ?_⟩
      have sN := same_new (o := .lst []) nN
      have ok3 : ∀ x ∈ ls, okS x := fun x hx => okr x ((hmem x).mpr (.inl hx))
      have kN : ∀ b o, H b = some o → b ≠ D → b ≠ A1 → (upd H3 N (.lst [])) b = some o := fun b o e n1 n2 => sN _ _ (k3 b o e n1 n2)
      have dN := d3.same sN
      have eLN := sN _ _ eL3
      have eFN := sN _ _ eF3
      refine ⟨_, _, .lst (SqL.of eLN) (dp_strs ls), .lst (SqL.of upd_same) .nil, shaped_strs ls ok3, shaped_strs [] (by intro x h; cases h), _, rfl, ?_⟩
      rw [eqv_nilS]
      generalize upd H3 N (.lst []) = H4 at kN dN eLN eFN ⊢
      obtain ⟨⟨_, gD⟩, ⟨_, gA⟩, ⟨_, gB⟩⟩ := dN.tracked
      cases ls with
      | nil =>
        refine iteF ?_
        -- found + found[:..]
        have lf : fs.length = rs.length := by simpa using hlen
        refine ⟨.ref F, rfl, .ref F, rfl, .ref D, rfl, D, A1, B, m, 2, rfl, dN, by omega, by decide, by decide, fun r H5 r0 r1 d5 k5 => ?_⟩
        have eF5 := k5 _ _ eFN FD FA
        refine ⟨r, rfl, F, _, rfl, SqL.of eF5, fun C nC => ?_⟩
        have sC := same_new (o := .lst (cutV (fs.map V.str) none (some r))) nC
        have dC := d5.same sC
        have kC : ∀ b o, H b = some o → b ≠ D → b ≠ A1 → (upd H5 C (.lst (cutV (fs.map V.str) none (some r)))) b = some o := fun b o e n1 n2 => sC _ _ (k5 b o (kN b o e n1 n2) n1 n2)
        have eCut : ∃ cs : List Str, cutV (fs.map V.str) none (some r) = cs.map V.str ∧ (∀ x ∈ cs, x ∈ fs) ∧ cs.length ≤ fs.length := by
          refine ⟨(fs.drop (HT.sIx (fs.map V.str).length 0 none)).take (HT.sIx (fs.map V.str).length (fs.map V.str).length (some r) - HT.sIx (fs.map V.str).length 0 none), ?_, fun x hx => List.mem_of_mem_drop (List.mem_of_mem_take hx), ?_⟩
          · unfold cutV
            rw [List.map_take, List.map_drop]
          · rw [List.length_take, List.length_drop]
            omega
        obtain ⟨cs, ecs, mcs, lcs⟩ := eCut
        rw [ecs] at dC kC sC ⊢
        have eC : (upd H5 C (.lst (cs.map V.str))) C = some (.lst (cs.map V.str)) := upd_same
        have eF6 := sC _ _ eF5
        generalize upd H5 C (.lst (cs.map V.str)) = H6 at dC kC eC eF6 ⊢
        refine ⟨F, C, _, _, rfl, rfl, eF6, eC, ?_, fun G nG => ?_⟩
        · rw [List.length_map, List.length_map, sizeLine_eq]
          omega
        have sG := same_new (o := .lst (fs.map V.str ++ cs.map V.str)) nG
        have dG := dC.same sG
        have eG : (upd H6 G (.lst (fs.map V.str ++ cs.map V.str))) G = some (.lst (fs.map V.str ++ cs.map V.str)) := upd_same
        have kG : ∀ b o, H b = some o → b ≠ D → b ≠ A1 → (upd H6 G (.lst (fs.map V.str ++ cs.map V.str))) b = some o := fun b o e n1 n2 => sG _ _ (kC b o e n1 n2)
        have memG : ∀ x, x ∈ fs ++ cs ↔ x ∈ rs := fun x => by
          rw [List.mem_append, hmem]
          constructor
          · rintro (h | h)
            · exact .inr h
            · exact .inr (mcs x h)
          · rintro (h | h)
            · cases h
            · exact .inl h
        rw [← List.map_append] at eG dG kG sG ⊢
        generalize upd H6 G (.lst ((fs ++ cs).map V.str)) = H7 at dG kG eG ⊢
        refine ⟨.ref G, rfl, .ref G, rfl, G, _, rfl, .inl ⟨SqL.of eG, fun T nT => ?_⟩⟩
        have sT := same_new (o := .tup ((fs ++ cs).map V.str)) nT
        have eT : (upd H7 T (.tup ((fs ++ cs).map V.str))) T = some (.tup ((fs ++ cs).map V.str)) := upd_same
        have eG8 := sT _ _ eG
        have d8 := dG.same sT
        have k8 : ∀ b o, H b = some o → b ≠ D → b ≠ A1 → (upd H7 T (.tup ((fs ++ cs).map V.str))) b = some o := fun b o e n1 n2 => sT _ _ (kG b o e n1 n2)
        generalize upd H7 T (.tup ((fs ++ cs).map V.str)) = H8 at eT eG8 d8 k8 ⊢
        refine ⟨by show 2 ≤ sizeLine; decide, fun U nU => ?_⟩
        have sU := same_new (o := .lst [.ref G, .ref T]) nU
        have eU : (upd H8 U (.lst [.ref G, .ref T])) U = some (.lst [.ref G, .ref T]) := upd_same
        have d9 := d8.same sU
        have eG9 := sU _ _ eG8
        have eT9 := sU _ _ eT
        have k9 : ∀ b o, H b = some o → b ≠ D → b ≠ A1 → (upd H8 U (.lst [.ref G, .ref T])) b = some o := fun b o e n1 n2 => sU _ _ (k8 b o e n1 n2)
        generalize upd H8 U (.lst [.ref G, .ref T]) = H9 at eU d9 eG9 eT9 k9 ⊢
        obtain ⟨⟨_, c1⟩, ⟨_, c2⟩, _⟩ := dC.tracked
        obtain ⟨⟨_, c3⟩, ⟨_, c4⟩, _⟩ := dG.tracked
        obtain ⟨⟨_, c5⟩, ⟨_, c6⟩, _⟩ := d8.tracked
        have GD : G ≠ D := (ne_of_none c1 nG).symm
        have GA : G ≠ A1 := (ne_of_none c2 nG).symm
        have TD : T ≠ D := (ne_of_none c3 nT).symm
        have TA : T ≠ A1 := (ne_of_none c4 nT).symm
        have UD : U ≠ D := (ne_of_none c5 nU).symm
        have UA : U ≠ A1 := (ne_of_none c6 nU).symm
        refine ⟨.ref D, rfl, D, A1, B, m + 1, 2, rfl, d9, by omega, by decide, by decide, fun r2 H10 q0 q1 d10 k10 => ?_⟩
        have kk : Kept D A1 H H10 := fun b o e n1 n2 => k10 b o (k9 b o e n1 n2) n1 n2
        have nb : m + 1 + 1 ≤ n + (rs.length : Int) + 2 := by omega
        rcases (show r2 = 0 ∨ r2 = 1 by omega) with rfl | rfl
        · exact ⟨U, _, 0, .ref G, rfl, rfl, SqL.of (k10 _ _ eU UD UA), atI_nat (j := 0) rfl, k H10 G (fs ++ cs) _ d10 nb kk (.inl (k10 _ _ eG9 GD GA)) memG⟩
        · exact ⟨U, _, 1, .ref T, rfl, rfl, SqL.of (k10 _ _ eU UD UA), atI_nat (j := 1) rfl, k H10 T (fs ++ cs) _ d10 nb kk (.inr (k10 _ _ eT9 TD TA)) memG⟩
      | cons a t =>
        refine iteT ?_
        have hlen' : (a :: t).length + fs.length = rs.length := hlen
        have l1 : (a :: t).length = t.length + 1 := rfl
        refine ⟨.ref F, rfl, .inl ⟨rfl, _, SqL.of eFN⟩, .ref Lf, rfl, .inl ⟨rfl, _, SqL.of eLN⟩, .ref D, rfl, .ref Lf, rfl, Lf, _, rfl, .inl (SqL.of eLN), D, A1, B, m, _, rfl, dN, by omega, ?_, ?_, fun r H5 r0 r1 d5 k5 => ?_⟩
        · rw [List.length_map]
          omega
        · rw [List.length_map]
          omega
        rw [List.length_map] at r1
        obtain ⟨j, rfl⟩ : ∃ j : Nat, r = (j : Int) := ⟨_, (Int.toNat_of_nonneg r0).symm⟩
        have jl : j < (a :: t).length := by omega
        have gj : (a :: t)[j]? = some ((a :: t)[j]'jl) := List.getElem?_eq_getElem jl
        generalize (a :: t)[j]'jl = y at gj
        have eL5 := k5 _ _ eLN LD LA
        have eF5 := k5 _ _ eFN FD FA
        have eFu : (upd H5 Lf (.lst (((a :: t).map V.str).eraseIdx j))) F = some (.lst (fs.map V.str)) := by
          rw [upd_ne LF.symm]
          exact eF5
        refine ⟨Lf, _, (j : Int), j, .str y, rfl, rfl, eL5, by omega, by omega, ?_, by rw [List.getElem?_map, gj]; rfl, F, _, _, rfl, rfl, eFu, ?_, ?_⟩
        · refine (ixN_seq (j := j) ?_).1
          unfold ixN
          rw [if_pos (by omega), if_pos (by rw [List.length_map]; omega)]
          rfl
        · rw [List.length_map, sizeLine_eq]
          omega
        · have ee : ((a :: t).map V.str).eraseIdx j = ((a :: t).eraseIdx j).map V.str := by
            rw [List.eraseIdx_eq_take_drop_succ, List.eraseIdx_eq_take_drop_succ, List.map_append, List.map_take, List.map_drop]
          have le : ((a :: t).eraseIdx j).length = t.length := by
            rw [List.length_eraseIdx, if_pos jl]
            omega
          have eL7 : (upd (upd H5 Lf (.lst (((a :: t).map V.str).eraseIdx j))) F (.lst (fs.map V.str ++ [.str y]))) Lf = some (.lst (((a :: t).eraseIdx j).map V.str)) := by
            rw [upd_ne LF, upd_same, ee]
          refine ⟨⟨rfl, (a :: t).eraseIdx j, fs ++ [y], m + 1, eL7, ?_, (d5.upd LD LA LB).upd FD FA FB, ?_, ?_, fun x => ?_, fun b o e n1 n2 => ?_⟩, ?_⟩
          · rw [upd_same, List.map_append]
            rfl
          · rw [List.length_append, hm]
            show n + (fs.length : Int) + 1 = n + ((fs.length + 1 : Nat) : Int)
            omega
          · rw [le, List.length_append]
            show t.length + (fs.length + 1) = rs.length
            omega
          · rw [hmem, mem_erase gj, List.mem_append, List.mem_singleton]
            constructor
            · rintro ((h | h) | h)
              · exact .inr (.inr h)
              · exact .inl h
              · exact .inr (.inl h)
            · rintro (h | h | h)
              · exact .inl (.inr h)
              · exact .inr h
              · exact .inl (.inl h)
          · rw [upd_ne (ne_of_none e nF0), upd_ne (ne_of_none e nLf)]
            exact k5 b o (kN b o e n1 n2) n1 n2
          · show (match (upd (upd H5 Lf (.lst (((a :: t).map V.str).eraseIdx j))) F (.lst (fs.map V.str ++ [.str y]))) Lf with | some (.lst l) => l.length | _ => 0) < (match H3 Lf with | some (.lst l) => l.length | _ => 0)
            rw [eL7, eL3]
            show (((a :: t).eraseIdx j).map V.str).length < ((a :: t).map V.str).length
            rw [List.length_map, List.length_map, le]
            exact Nat.lt_succ_self _
    · rintro σ H4 Q1 Q2 i ⟨v, e1, h1, h2⟩
      refine ⟨v, e1, h1, fun pp np => ?_⟩
      obtain ⟨d, e, a1, a2, a3, a4, b, e5, q⟩ := h2 pp np
      exact ⟨d, e, a1, a2, a3, a4, b, e5, i _ _ q⟩
end

/-! ### the law's own -/
theorem dec_nl (c : Nat) : decide (V.str ⟨#[c]⟩ = V.str "\n") = (c == 10) := by
  rw [dec_strs, tl_nl, Bool.eq_iff_iff, decide_eq_true_eq, beq_iff_eq]
  show [c] = [10] ↔ _
  simp
theorem dec_sp (c : Nat) : decide (V.str ⟨#[c]⟩ = V.str " ") = (c == 32) := by
  rw [dec_strs, sp_eq, Bool.eq_iff_iff, decide_eq_true_eq, beq_iff_eq]
  show [c] = [32] ↔ _
  simp
theorem tl_one (c : Nat) : tl (⟨#[c]⟩ : Str) = [c] := rfl
theorem len_one (c : Nat) : (⟨#[c]⟩ : Str).length = 1 := rfl
theorem cut_last (u : List Nat) (c : Nat) : tl (cutS (mk (u ++ [c])) none (some (-1))) = u := by
  show ((u ++ [c]).drop (HT.sIx (mk (u ++ [c])).length 0 none)).take (HT.sIx (mk (u ++ [c])).length (mk (u ++ [c])).length (some (-1)) - HT.sIx (mk (u ++ [c])).length 0 none) = u
  have e1 : HT.sIx (mk (u ++ [c])).length 0 none = 0 := HT.sIx_none ..
  have e2 : HT.sIx (mk (u ++ [c])).length (mk (u ++ [c])).length (some (-1)) = u.length := by
    rw [mk_len, List.length_append]
    unfold HT.sIx
    simp
    try omega
  rw [e1, e2]
  simp
theorem bare_signs (y : List Nat) : ((y.filter fun c => !(c == 32)).map fun c => (⟨#[c]⟩ : Str)).isEmpty = bare y := by
  unfold bare
  induction y with
  | nil => rfl
  | cons c r ih =>
    rw [List.filter_cons, List.all_cons]
    cases h : (c == 32) with
    | true => exact ih
    | false => rfl
def TX1 : List Str := ["", "", " ", "  ", "\t", "a", " b", "<BLANKLINE>", "a b "]
def TX2 : List Str := ["", "", "", "c", " "]
theorem tx1_all : TX1.all (fun x => (tl x).all (· < 128) && decide (x.length ≤ 11)) = true := by decide +kernel
theorem tx2_all : TX2.all (fun x => (tl x).all (· < 128) && decide (x.length ≤ 11)) = true := by decide +kernel
theorem okS_nl : okS "\n" := ok_ascii (by decide +kernel)
theorem okS_empty : okS "" := ok_ascii (by decide +kernel)
section
variable {P : Program} {w : World} {K : PySem.W.Frag} {mg : Str → Option Value} {base : Heap}
def sp_law_text : Sp := fun vs H Q _ => ∃ (D A B : Addr) (n : Int), vs = [.ref D] ∧ Drw H D A B n ∧ n < 900000 ∧ ∀ (H' : Hp) (x : Str) (n' : Int), Drw H' D A B n' → n' ≤ n + 7 → Kept D A H H' → okS x → x.length ≤ 100 → Q (.str x) H'
theorem ok_law_text {f : Addr} {fd : FuncData} {dvs : List V} (F : Fn K "_law_text" s_law_text dvs f fd) (O_law_take : Own P w K mg base "_law_take" 2 ["draws", "size"] [] (sp_law_take)) (O_law_pick : Own P w K mg base "_law_pick" 3 ["draws", "some"] [] (sp_law_pick)) (m_range : mg "range" = none) : FnOk P w K mg base CX0 4 f fd ["draws"] (sp_law_text) := by
  refine Fn.okN F sc_law_text (fun vs H Q E h => ?_) (fun cdv A outer s H vs Q E hr h => ?_)
  · obtain ⟨_, _, _, _, rfl, _⟩ := h
    rfl
  · obtain ⟨D, A1, B, n, rfl, dr, hn, k⟩ := h
    refine ⟨_, (pss_cons (ps_set (i := 1) sc_law_text.nd rfl (.inr rfl) (pe_lst (pa_cons pe_str (pa_cons pe_str (pa_cons pe_str (pa_cons pe_str (pa_cons pe_str (pa_cons pe_str (pa_cons pe_str (pa_cons pe_str (pa_cons pe_str pa_nil)))))))))))
      (pss_cons (ps_setLc (i := 2) (own := [("k", 3)]) (g := gName 3) (tt := tYes) (by rfl) sc_law_text.nd rfl rfl (sw_true rfl rfl rfl (by decide +kernel)) (pi_range1 rfl m_range (pa_cons (pe_own O_law_take (hr.mono (by decide)) (by rfl) (pa_cons (pv 0) (pa_cons pe_int pa_nil))) pa_nil)) (blkOk_by (own := [("k", 3)]) (N := ["draws", "some", "lines", "k", "line"]) (sc := defScope s_law_text) (by decide +kernel)) (fun _ _ _ _ _ => (pg_name (i := 3) sc_law_text.nd rfl (.inl rfl))) (fun _ _ _ _ _ => pts_nil) (fun _ _ _ _ _ => (pe_own O_law_pick (hr.mono (by decide)) (by rfl) (pa_cons (pv 0) (pa_cons (pv 1) pa_nil)))))
      (pss_one (ps_ret (pe_op op_add_str (pe_m1 PySem.F.slot_str_join PySem.F.type_str_join mt_join pe_str (pe_lc (own := [("line", 4)]) (g := gName 4) (tt := tYes) (by rfl) sc_law_text.nd (pi_list (pv 2)) (blkOk_by (own := [("line", 4)]) (N := ["draws", "some", "lines", "k", "line"]) (sc := defScope s_law_text) (by decide +kernel)) (fun _ _ _ _ _ => (pg_name (i := 4) sc_law_text.nd rfl (.inl rfl))) (fun _ _ _ _ _ => pts_nil) (fun _ _ _ _ _ => (pe_op op_add_str (pv 4) pe_str)))) (pe_own O_law_pick (hr.mono (by decide)) (by rfl) (pa_cons (pv 0) (pa_cons (pe_lst (pa_cons pe_str (pa_cons pe_str (pa_cons pe_str (pa_cons pe_str (pa_cons pe_str pa_nil)))))) pa_nil)))))))), ?_⟩
    refine ⟨by show 9 ≤ sizeLine; decide, fun M nM => ?_⟩
    have sM := same_new (o := .lst (TX1.map V.str)) nM
    have d6 := dr.same sM
    have eM : (upd H M (.lst (TX1.map V.str))) M = some (.lst (TX1.map V.str)) := upd_same
    have MD := fresh_ne dr nM
    have k6 : Kept D A1 H (upd H M (.lst (TX1.map V.str))) := Kept.of sM
    show _
    generalize hH : upd H M (.lst (TX1.map V.str)) = H6 at d6 eM k6
    rw [show upd H M (.lst [V.str "", .str "", .str " ", .str "  ", .str "\t", .str "a", .str " b", .str "<BLANKLINE>", .str "a b "]) = H6 from hH]
    refine ⟨.ref D, rfl, D, A1, B, n, 6, rfl, d6, by omega, by decide, by decide, fun r H7 r0 r1 d7 k7 => ?_⟩
    have eM7 := k7 _ _ eM MD.1 MD.2
    have kX : Kept D A1 H H7 := fun b o e n1 n2 => k7 b o (k6 b o e n1 n2) n1 n2
    refine ⟨r, rfl, by omega, by omega, fun L nL => ?_⟩
    have LD := fresh_ne d7 nL
    have LB : L ≠ B := by
      obtain ⟨_, _, ⟨_, e3⟩⟩ := d7.tracked
      exact (ne_of_none e3 nL).symm
    have LM : M ≠ L := ne_of_none eM7 nL
    have nX : ∀ b o, H b = some o → b ≠ D → b ≠ A1 → b ≠ L := fun b o e n1 n2 => ne_of_none (kX b o e n1 n2) nL
    refine lc_range (lo := 0) (n := r.toNat) (fun j H8 => ∃ (ws : List Str) (m : Int), H8 L = some (.lst (ws.map V.str)) ∧ (∀ x ∈ ws, x ∈ TX1) ∧ ws.length ≤ j ∧ Drw H8 D A1 B m ∧ m ≤ n + 1 + j ∧ H8 M = some (.lst (TX1.map V.str)) ∧ Kept D A1 H H8)
      ⟨[], n + 1, upd_same, (by intro x h; cases h), Nat.le_refl _, d7.new nL, by omega, by rw [upd_ne LM]; exact eM7, fun b o e n1 n2 => by rw [upd_ne (nX b o e n1 n2)]; exact kX b o e n1 n2⟩ ?_ ?_
    · rintro j H8 hj ⟨ws, m, eL, hw, lw, d8, hm, eM8, k8⟩
      refine ⟨rfl, ?_⟩
      unfold tYes
      show ite (true = true) _ _
      rw [if_pos rfl]
      refine ⟨.ref D, rfl, .ref M, rfl, D, A1, B, M, m, _, rfl, d8, by omega, .inl eM8, MD.1, MD.2, by decide, by decide, fun q v H9 hv d9 k9 => ?_⟩
      obtain ⟨z, rfl, hz⟩ := str_at hv
      refine ⟨_, k9 _ _ eL LD.1 LD.2, by rw [List.length_map]; exact small1000 (by omega), ws ++ [z], m + 1, ?_, fun x hx => ?_, ?_, d9.upd LD.1 LD.2 LB, by omega, ?_, fun b o e n1 n2 => by rw [upd_ne (nX b o e n1 n2)]; exact k9 b o (k8 b o e n1 n2) n1 n2⟩
      · rw [upd_same, List.map_append]
        rfl
      · rcases List.mem_append.mp hx with h | h
        · exact hw x h
        · rw [List.mem_singleton.mp h]
          exact List.mem_of_getElem? hz
      · rw [List.length_append]
        show ws.length + 1 ≤ j + 1
        omega
      · rw [upd_ne LM]
        exact k9 _ _ eM8 MD.1 MD.2
    · rintro H8 ⟨ws, m, eL, hw, lw, d8, hm, eM8, k8⟩
      have lw5 : ws.length ≤ 5 := by omega
      have hm5 : m ≤ n + 6 := by omega
      refine ⟨⟨_, rfl⟩, .ref L, rfl, L, rfl, ⟨_, SqL.of eL⟩, fun F nF => ?_⟩
      refine lc_list (K := K) (a := L) (xs := ws.map V.str) (fun j H9 => ∃ acc : List Str, H9 F = some (.lst (acc.map V.str)) ∧ (∀ x ∈ acc, okS x ∧ x.length ≤ 12) ∧ acc.length ≤ j ∧ Same H8 H9) ⟨[], upd_same, (by intro x h; cases h), Nat.le_refl _, same_new nF⟩ (fun j H9 _ h => by obtain ⟨_, _, _, _, s⟩ := h; exact SqL.of (s _ _ eL)) ?_ ?_
      · rintro j v H9 hv ⟨acc, eF, ha, la, s9⟩
        obtain ⟨z, rfl, hz⟩ := str_at hv
        have hj : j < ws.length := (List.getElem?_eq_some_iff.mp hz).1
        have gz := menu_of tx1_all (hw z (List.mem_of_getElem? hz))
        have l1 := len_app z "\n"
        rw [len_nl] at l1
        refine ⟨rfl, ?_⟩
        unfold tYes
        show ite (true = true) _ _
        rw [if_pos rfl]
        refine ⟨.str z, rfl, z, "\n", rfl, rfl, by rw [len_nl, sizeLine_eq]; omega, _, eF, by rw [List.length_map]; exact small1000 (by omega), acc ++ [z ++ "\n"], ?_, fun x hx => ?_, ?_, fun b o e => ?_⟩
        · rw [upd_same, List.map_append]
          rfl
        · rcases List.mem_append.mp hx with h | h
          · exact ha x h
          · rw [List.mem_singleton.mp h]
            exact ⟨okS_app gz.1 okS_nl, by omega⟩
        · rw [List.length_append]
          show acc.length + 1 ≤ j + 1
          omega
        · rw [upd_ne (ne_of_none e nF)]
          exact s9 _ _ e
      · rintro H9 ⟨ac, eF, ha, la, s9⟩
        rw [List.length_map] at la
        have b1 := sum_len 12 ac fun x hx => (ha x hx).2
        have b2 := len_join "" 12 ac fun x hx => (ha x hx).2
        have b3 := okS_join okS_empty ac fun x hx => (ha x hx).1
        have le : ("" : Str).length = 0 := by decide +kernel
        rw [le] at b2
        refine ⟨"", F, ac, rfl, rfl, .inl (SqL.of eF), by rw [le]; omega, ?_⟩
        generalize Txt.join "" ac = t0 at b2 b3
        have d9 := d8.same s9
        refine ⟨.ref D, rfl, by show 5 ≤ sizeLine; decide, fun M2 nM2 => ?_⟩
        have s10 := same_new (o := .lst (TX2.map V.str)) nM2
        have d10 := d9.same s10
        have eM2 : (upd H9 M2 (.lst (TX2.map V.str))) M2 = some (.lst (TX2.map V.str)) := upd_same
        have MD2 := fresh_ne d9 nM2
        show _
        generalize hH2 : upd H9 M2 (.lst (TX2.map V.str)) = H10 at s10 d10 eM2
        rw [show upd H9 M2 (.lst [V.str "", .str "", .str "", .str "c", .str " "]) = H10 from hH2]
        refine ⟨D, A1, B, M2, m, _, rfl, d10, by omega, .inl eM2, MD2.1, MD2.2, by decide, by decide, fun j v H11 hv d11 k11 => ?_⟩
        obtain ⟨z, rfl, hz⟩ := str_at hv
        have gz := menu_of tx2_all (List.mem_of_getElem? hz)
        have l2 := len_app t0 z
        refine ⟨t0, z, rfl, rfl, by rw [sizeLine_eq]; omega, ?_⟩
        exact k H11 _ _ d11 (by omega) (fun b o e n1 n2 => k11 _ _ (s10 _ _ (s9 _ _ (k8 b o e n1 n2))) n1 n2) (okS_app b3 gz.1) (by omega)
def sp_law_moved : Sp := fun vs H Q _ => ∃ x : Str, vs = [.str x] ∧ x.length ≤ 2000 ∧ ∀ (H' : Hp) (s : Str), Same H H' → tl s = mov true (tl x) → s.length ≤ 10000 → Q (.str s) H'
theorem ok_law_moved {f : Addr} {fd : FuncData} {dvs : List V} (F : Fn K "_law_moved" s_law_moved dvs f fd) : FnOk P w K mg base CX0 1 f fd ["text"] (sp_law_moved) := by
  refine Fn.okN F sc_law_moved (fun vs H Q E h => ?_) (fun cdv A outer s H vs Q E hr h => ?_)
  · obtain ⟨_, rfl, _⟩ := h
    rfl
  · obtain ⟨x, rfl, hx, k⟩ := h
    refine ⟨_, (pss_cons (ps_asg (pe_tup (pa_cons pe_str (pa_cons pe_bl pa_nil))) (pg_tup rfl (pgs_cons (pg_name (i := 1) sc_law_moved.nd rfl (.inl rfl)) (pgs_cons (pg_name (i := 2) sc_law_moved.nd rfl (.inl rfl)) pgs_nil))))
      (pss_cons (ps_for PassesOwn.never rfl (pi_str (pv 0)) (pg_name (i := 3) sc_law_moved.nd rfl (.inl rfl))
          (pss_cons (ps_set (i := 1) sc_law_moved.nd rfl (.inl rfl) (pe_op op_add_str (pe_op op_add_str (pv 1) (pe_ifExp (PW.pt (pw_and (pt_val (pv 2)) (pw_and1 (pt_cmpR op_ne (pv 3) pe_str (nomark _))))) pe_str pe_str)) (pv 3)))
            (pss_one (ps_set (i := 2) sc_law_moved.nd rfl (.inl rfl) (pe_cmpR op_eq (pv 3) pe_str (nomark _))))))
      (pss_one (ps_ret (pv 1))))), ?_⟩
    refine ⟨by show 2 ≤ sizeLine; decide, fun T nT => ⟨T, [.str "", .bl true], rfl, SqT.of upd_same, rfl, _, _, rfl, _, _, rfl, rfl, ?_⟩⟩
    have s1 := same_new (o := .tup [.str "", .bl true]) nT
    generalize upd H T (.tup [.str "", .bl true]) = H1 at s1 ⊢
    have hx' : (tl x).length ≤ 2000 := by rw [← len_tl]; exact hx
    refine ⟨.str x, rfl, x, rfl, for_str (fun i σ H2 => ∃ v3 : Option V, σ = [some (.str x), some (.str (mk (((tl x).take i).foldl movst ([], true)).1)), some (.bl (((tl x).take i).foldl movst ([], true)).2), v3] ∧ H2 = H1) ⟨none, rfl, rfl⟩ ?_ ?_⟩
    · rintro i c σ H2 hc ⟨v3, rfl, rfl⟩
      have hi : i < (tl x).length := (List.getElem?_eq_some_iff.mp hc).1
      have ef : ((tl x).take (i + 1)).foldl movst ([], true) = movst (((tl x).take i).foldl movst ([], true)) c := by
        rw [List.take_add_one, hc, List.foldl_append]
        rfl
      have lf : (((tl x).take i).foldl movst ([], true)).1.length ≤ 10000 := by
        rw [mov_fold, List.nil_append]
        have := mov_len ((tl x).take i) true
        rw [List.length_take] at this
        omega
      rw [ef]
      generalize ((tl x).take i).foldl movst ([], true) = st at lf
      obtain ⟨f, b⟩ := st
      have lm : (mk f).length ≤ 10000 := by rw [mk_len]; exact lf
      have fin : ∀ (r : Str), tl r = (if (b && !(c == 10)) = true then SP4 else []) → ∃ i_1 j, V.str (mk f) = .str i_1 ∧ V.str r = .str j ∧ i_1.length + j.length ≤ sizeLine ∧ ∃ i_2 j_1, V.str (i_1 ++ j) = .str i_2 ∧ V.str ⟨#[c]⟩ = .str j_1 ∧ i_2.length + j_1.length ≤ sizeLine ∧ V.str (i_2 ++ j_1) = V.str (mk (movst (f, b) c).1) := fun r hr => by
        have lr : r.length ≤ 4 := by
          rw [len_tl, hr]
          cases (b && !(c == 10)) <;> decide
        have la := len_app (mk f) r
        refine ⟨mk f, r, rfl, rfl, by rw [sizeLine_eq]; omega, _, _, rfl, rfl, by rw [len_one, sizeLine_eq]; omega, ?_⟩
        refine congrArg V.str (ext_tl ?_)
        rw [tl_append, tl_append, hr]
        rfl
      cases b with
      | false =>
        obtain ⟨i1, j1, e1, e2, z1, i2, j2, e3, e4, z2, e5⟩ := fin "" (by rw [tl_empty]; rfl)
        refine ⟨.str (mk f), rfl, .bl false, rfl, false, rfl, iteF (iteF ⟨i1, j1, e1, e2, z1, .str ⟨#[c]⟩, rfl, i2, j2, e3, e4, z2, ?_⟩)⟩
        rw [e5]
        refine ⟨.str ⟨#[c]⟩, rfl, rfl, ?_⟩
        rw [dec_nl]
        exact ⟨_, rfl, rfl⟩
      | true =>
        refine ⟨.str (mk f), rfl, .bl true, rfl, true, rfl, iteT ⟨.str ⟨#[c]⟩, rfl, rfl, _, rfl, ?_⟩⟩
        rw [dec_nl]
        cases h : (c == 10) with
        | true =>
          obtain ⟨i1, j1, e1, e2, z1, i2, j2, e3, e4, z2, e5⟩ := fin "" (by rw [tl_empty, h]; rfl)
          refine iteF ⟨i1, j1, e1, e2, z1, .str ⟨#[c]⟩, rfl, i2, j2, e3, e4, z2, ?_⟩
          rw [e5]
          refine ⟨.str ⟨#[c]⟩, rfl, rfl, ?_⟩
          rw [dec_nl]
          exact ⟨_, rfl, rfl⟩
        | false =>
          obtain ⟨i1, j1, e1, e2, z1, i2, j2, e3, e4, z2, e5⟩ := fin "    " (by rw [sp4_eq, h]; rfl)
          refine iteT ⟨i1, j1, e1, e2, z1, .str ⟨#[c]⟩, rfl, i2, j2, e3, e4, z2, ?_⟩
          rw [e5]
          refine ⟨.str ⟨#[c]⟩, rfl, rfl, ?_⟩
          rw [dec_nl]
          exact ⟨_, rfl, rfl⟩
    · rintro σ H2 ⟨v3, rfl, rfl⟩
      refine ⟨_, rfl, k H2 _ s1 ?_ ?_⟩
      · rw [List.take_length, mov_fold]
        rfl
      · rw [mk_len, List.take_length, mov_fold, List.nil_append]
        have := mov_len (tl x) true
        omega
def sp_law_marked : Sp := fun vs H Q _ => ∃ x : Str, vs = [.str x] ∧ x.length ≤ 150 ∧ okS x ∧ ∀ (H' : Hp) (s : Str), Same H H' → tl s = mkd [] (tl x) → Q (.str s) H'
theorem ok_law_marked {f : Addr} {fd : FuncData} {dvs : List V} (F : Fn K "_law_marked" s_law_marked dvs f fd) : FnOk P w K mg base CX0 1 f fd ["text"] (sp_law_marked) := by
  refine Fn.okN F sc_law_marked (fun vs H Q E h => ?_) (fun cdv A outer s H vs Q E hr h => ?_)
  · obtain ⟨_, rfl, _⟩ := h
    rfl
  · obtain ⟨x, rfl, hx, ok, k⟩ := h
    refine ⟨_, (pss_cons (ps_asg (pe_tup (pa_cons pe_str (pa_cons pe_str pa_nil))) (pg_tup rfl (pgs_cons (pg_name (i := 1) sc_law_marked.nd rfl (.inl rfl)) (pgs_cons (pg_name (i := 2) sc_law_marked.nd rfl (.inl rfl)) pgs_nil))))
      (pss_cons (ps_for PassesOwn.never rfl (pi_str (pv 0)) (pg_name (i := 3) sc_law_marked.nd rfl (.inl rfl))
          (pss_cons (ps_set (i := 2) sc_law_marked.nd rfl (.inl rfl) (pe_op op_add_str (pv 2) (pv 3)))
            (pss_one (ps_if (pt_cmpR op_eq (pv 3) pe_str (nomark _))
                (pss_cons (ps_set (i := 4) sc_law_marked.nd rfl (.inl rfl) (pe_cmpR (op_eqD hr.units) (pe_lc (own := [("one", 5)]) (g := gName 5) (by rfl) sc_law_marked.nd (pi_str (pe_slice sl_str (pv 2) po_none (po_some (pe_un un_neg pe_int)))) (blkOk_by (own := [("one", 5)]) (N := ["text", "found", "line", "sign", "is_bare", "one"]) (sc := defScope s_law_marked) (by decide +kernel)) (fun _ _ _ _ _ => (pg_name (i := 5) sc_law_marked.nd rfl (.inl rfl))) (fun _ _ _ _ _ => (pts_one (pt_cmpR op_ne (pv 5) pe_str (nomark _)))) (fun _ _ _ _ _ => (pv 5))) (pe_lst pa_nil) (nomark _)))
                  (pss_one (ps_par (i := 1) (j := 2) (by rfl) sc_law_marked.nd rfl rfl (by decide) rfl rfl (pa_cons (pe_op op_add_str (pv 1) (pe_ifExp (pt_val (pv 4)) pe_str (pv 2))) (pa_cons pe_str pa_nil)) (by rfl))))
                pss_nil))))
      (pss_one (ps_ret (pe_op op_add_str (pv 1) (pv 2)))))), ?_⟩
    refine ⟨by show 2 ≤ sizeLine; decide, fun T nT => ⟨T, [.str "", .str ""], rfl, SqT.of upd_same, rfl, _, _, rfl, _, _, rfl, rfl, ?_⟩⟩
    have s1 := same_new (o := .tup [.str "", .str ""]) nT
    generalize upd H T (.tup [.str "", .str ""]) = H1 at s1 ⊢
    have hx' : (tl x).length ≤ 150 := by rw [← len_tl]; exact hx
    have lall : ∀ i, (((tl x).take i).foldl mkst ([], [])).1.length + (((tl x).take i).foldl mkst ([], [])).2.length ≤ 1800 := fun i => by
      have h := mkst_len ((tl x).take i) ([], [])
      have h' : (((tl x).take i).foldl mkst ([], [])).1.length + (((tl x).take i).foldl mkst ([], [])).2.length ≤ 0 + 0 + 12 * ((tl x).take i).length := h
      rw [List.length_take] at h'
      omega
    refine ⟨.str x, rfl, x, rfl, for_str (fun i σ H2 => ∃ v3 v4 : Option V, σ = [some (.str x), some (.str (mk (((tl x).take i).foldl mkst ([], [])).1)), some (.str (mk (((tl x).take i).foldl mkst ([], [])).2)), v3, v4, none] ∧ Same H1 H2 ∧ (∀ d ∈ (((tl x).take i).foldl mkst ([], [])).2, d < 1114112)) ⟨none, none, rfl, fun _ _ e => e, by intro d h; cases h⟩ ?_ ?_⟩
    · rintro i c σ H2 hc ⟨v3, v4, rfl, s2, hok⟩
      have hi : i < (tl x).length := (List.getElem?_eq_some_iff.mp hc).1
      have ef : ((tl x).take (i + 1)).foldl mkst ([], []) = mkst (((tl x).take i).foldl mkst ([], [])) c := by
        rw [List.take_add_one, hc, List.foldl_append]
        rfl
      have ll := lall i
      have hcc : c < 1114112 := okS_iff.mp ok c (List.mem_of_getElem? hc)
      rw [ef]
      generalize ((tl x).take i).foldl mkst ([], []) = st at ll hok
      obtain ⟨f, u⟩ := st
      have ll' : f.length + u.length ≤ 1800 := ll
      have hok' : ∀ d ∈ u, d < 1114112 := hok
      have eu : mk u ++ (⟨#[c]⟩ : Str) = mk (u ++ [c]) := ext_tl (by rw [tl_append]; rfl)
      refine ⟨.str (mk u), rfl, .str ⟨#[c]⟩, rfl, _, _, rfl, rfl, by rw [mk_len, len_one, sizeLine_eq]; omega, ?_⟩
      rw [eu]
      refine ⟨.str ⟨#[c]⟩, rfl, rfl, _, rfl, ?_⟩
      rw [dec_nl]
      cases h : (c == 10) with
      | false =>
        have e1 : mkst (f, u) c = (f, u ++ [c]) := by
          unfold mkst
          rw [h]
          rfl
        rw [e1]
        refine iteF ⟨_, _, rfl, s2, fun d hd => ?_⟩
        rcases List.mem_append.mp hd with h1 | h1
        · exact hok' d h1
        · rw [List.mem_singleton.mp h1]
          exact hcc
      | true =>
        have hc10 : c = 10 := eq_of_beq h
        subst hc10
        have e1 : mkst (f, u) 10 = (f ++ (mkl u ++ [10]), []) := rfl
        rw [e1]
        have cl := cut_last u 10
        refine iteT ⟨.str (mk (u ++ [10])), rfl, _, rfl, -1, rfl, mk (u ++ [10]), rfl, line_of (by rw [mk_len, List.length_append]; show _ + 1 ≤ _; omega), cutS (mk (u ++ [10])) none (some (-1)), rfl, fun L nL => ?_⟩
        generalize cutS (mk (u ++ [10])) none (some (-1)) = y at cl
        subst cl
        refine lc_str (fun j H4 => H4 L = some (.lst (((((tl y).take j).filter fun c => !(c == 32)).map fun c => (⟨#[c]⟩ : Str)).map V.str)) ∧ Same H2 H4) ⟨upd_same, same_new nL⟩ ?_ ?_
        · rintro j c H4 hc ⟨eL, s4⟩
          have hj : j < (tl y).length := (List.getElem?_eq_some_iff.mp hc).1
          refine ⟨rfl, .str ⟨#[c]⟩, rfl, rfl, _, rfl, ?_⟩
          rw [dec_sp]
          have et := take_filter (fun c => !(c == 32)) hc
          cases hb : (c == 32) with
          | true =>
            rw [hb] at et
            refine iteF ⟨?_, s4⟩
            rw [et]
            show H4 L = some (.lst ((((((tl y).take j).filter fun c => !(c == 32)) ++ []).map fun c => (⟨#[c]⟩ : Str)).map V.str))
            rw [List.append_nil]
            exact eL
          | false =>
            rw [hb] at et
            have fl : (((tl y).take j).filter fun c => !(c == 32)).length ≤ j := Nat.le_trans (List.length_filter_le _ _) (List.length_take_le _ _)
            refine iteT ⟨.str ⟨#[c]⟩, rfl, _, eL, by rw [List.length_map, List.length_map, sizeLine_eq]; omega, ?_, fun b o e => ?_⟩
            · rw [upd_same, et, List.map_append, List.map_append]
              rfl
            · rw [upd_ne (ne_of_none e nL)]
              exact s4 b o e
        · rintro H4 ⟨eL, s4⟩
          rw [List.take_length] at eL
          refine ⟨Nat.zero_le _, fun N nN => ?_⟩
          have s5 := same_new (o := .lst []) nN
          refine ⟨_, _, .lst (SqL.of (s5 _ _ eL)) (dp_strs _), .lst (SqL.of upd_same) .nil, ?_, shaped_strs [] (by intro x h; cases h), ?_⟩
          · refine shaped_strs _ fun q hq => ?_
            obtain ⟨c, hc, rfl⟩ := List.mem_map.mp hq
            rw [okS_iff]
            intro d hd
            have : d = c := by simpa [tl] using hd
            subst this
            exact hok' _ (List.mem_filter.mp hc).1
          rw [eqv_nilS, bare_signs]
          have s6 : Same H1 (upd H4 N (.lst [])) := s2.trans (s4.trans s5)
          refine ⟨.str (mk f), rfl, .bl (bare (tl y)), rfl, bare (tl y), rfl, ?_⟩
          have fin : ∀ r : Str, tl r = mkl (tl y) ++ [10] → ∃ i j, V.str (mk f) = .str i ∧ V.str r = .str j ∧ i.length + j.length ≤ sizeLine ∧ V.str (i ++ j) = V.str (mk (f ++ (mkl (tl y) ++ [10]))) := fun r hr => by
            have lr : r.length ≤ 2000 := by
              rw [len_tl, hr, List.length_append]
              have := mkl_len (tl y)
              show _ + 1 ≤ _
              omega
            refine ⟨_, _, rfl, rfl, by rw [mk_len, sizeLine_eq]; omega, congrArg V.str (ext_tl ?_)⟩
            rw [tl_append, hr]
            rfl
          cases hb : bare (tl y) with
          | true =>
            obtain ⟨i1, j1, q1, q2, q3, q4⟩ := fin "<BLANKLINE>\n" (by unfold mkl; rw [hb, if_pos rfl]; decide +kernel)
            refine iteT ⟨i1, j1, q1, q2, q3, ?_⟩
            rw [q4]
            exact ⟨_, _, rfl, _, _, rfl, s6, by intro d h; cases h⟩
          | false =>
            obtain ⟨i1, j1, q1, q2, q3, q4⟩ := fin (mk (tl y ++ [10])) (by unfold mkl; rw [hb]; rfl)
            refine iteF ⟨.str (mk (tl y ++ [10])), rfl, i1, j1, q1, q2, q3, ?_⟩
            rw [q4]
            exact ⟨_, _, rfl, _, _, rfl, s6, by intro d h; cases h⟩
    · rintro σ H2 ⟨v3, v4, rfl, s2, hok⟩
      have ll := lall (tl x).length
      refine ⟨.str _, rfl, .str _, rfl, _, _, rfl, rfl, by rw [mk_len, mk_len, sizeLine_eq]; omega, k H2 _ (s1.trans s2) ?_⟩
      rw [tl_append, tl_mk', tl_mk', List.take_length, mkd_fold]
      rfl
end

/-! ### the law -/
theorem h_exp : tl ("Expected nothing\n" : Str) = tl ("Expected" : Str) ++ tl (" nothing\n" : Str) := by decide +kernel
theorem h_exp2 : tl ("Expected:\n" : Str) = tl ("Expected" : Str) ++ tl (":\n" : Str) := by decide +kernel
theorem h_got : tl ("Got nothing\n" : Str) = tl ("Got" : Str) ++ tl (" nothing\n" : Str) := by decide +kernel
theorem h_got2 : tl ("Got:\n" : Str) = tl ("Got" : Str) ++ tl (":\n" : Str) := by decide +kernel
theorem l_exp : ("Expected nothing\n" : Str).length = 17 ∧ ("Expected:\n" : Str).length = 10 ∧ ("Got nothing\n" : Str).length = 12 ∧ ("Got:\n" : Str).length = 5 := by decide +kernel
theorem fa1 : ∀ z ∈ (["DONT_ACCEPT_BLANKLINE"] : List Str), okS z ∧ has z v_FLAGS = true := by
  intro z h
  rw [List.mem_singleton.mp h]
  exact ⟨ok_ascii (by decide +kernel), by decide +kernel⟩
theorem fa2 : ∀ z ∈ (["ELLIPSIS", "NORMALIZE_WHITESPACE"] : List Str), okS z ∧ has z v_FLAGS = true := by
  intro z h
  rcases List.mem_cons.mp h with h | h
  · rw [h]
    exact ⟨ok_ascii (by decide +kernel), by decide +kernel⟩
  · rw [List.mem_singleton.mp h]
    exact ⟨ok_ascii (by decide +kernel), by decide +kernel⟩
theorem end1 : diffL [] (tl "") (tl "") = tl "Expected nothing\nGot nothing\n" := by decide +kernel
theorem empty_iff {x : Str} : decide (tl x = tl "") = (tl x).isEmpty := by
  rw [tl_empty, Bool.eq_iff_iff]
  cases tl x <;> simp
section
variable {P : Program} {w : World} {K : PySem.W.Frag} {mg : Str → Option Value} {base : Heap}
def sp_law (K : PySem.W.Frag) : Sp := fun vs H Q _ => ∃ (a : Addr) (ns : List Int), vs = [.ref a] ∧ SqL K H a (ns.map V.int) ∧ ns.length ≤ 63 ∧ ∀ H', Q (.bl true) H'
theorem ok_law {f : Addr} {fd : FuncData} {dvs : List V} (F : Fn K "law" s_law dvs f fd) (O_law_draws : Own P w K mg base "_law_draws" 1 ["script"] [] (sp_law_draws K)) (O_law_text : Own P w K mg base "_law_text" 4 ["draws"] [] (sp_law_text)) (O_law_marked : Own P w K mg base "_law_marked" 1 ["text"] [] (sp_law_marked)) (O_law_moved : Own P w K mg base "_law_moved" 1 ["text"] [] (sp_law_moved)) (O_law_handed : Own P w K mg base "_law_handed" 3 ["draws", "rules"] [] (sp_law_handed)) (O_difference_text : Own P w K mg base "difference_text" 3 ["want", "got", "flags"] [] (sp_difference_text K)) (O_indented : Own P w K mg base "indented" 1 ["text"] [] (sp_indented)) {E_difference_text0 : Addr} (Q_E_difference_text0 : ∀ H, SqT K H E_difference_text0 []) (O_difference_text_d2 : Own P w K mg base "difference_text" 3 ["want", "got", "flags"] [.ref E_difference_text0] (sp_difference_text K)) (m_range : mg "range" = none) : FnOk P w K mg base CX0 5 f fd ["script"] (sp_law K) := by
  refine Fn.okN F sc_law (fun vs H Q E h => ?_) (fun cdv A outer s H vs Q E hr h => ?_)
  · obtain ⟨_, _, rfl, _⟩ := h
    rfl
  · obtain ⟨a, ns, rfl, hS, hlen, k⟩ := h
    refine ⟨_, (pss_cons (ps_set (i := 1) sc_law.nd rfl (.inl rfl) (pe_own O_law_draws (hr.mono (by decide)) (by rfl) (pa_cons (pv 0) pa_nil)))
      (pss_cons (ps_for PassesOwn.never rfl (pi_range1 rfl m_range (pa_cons pe_int pa_nil)) (pg_name (i := 2) sc_law.nd rfl (.inl rfl))
          (pss_cons (ps_par (i := 3) (j := 4) (by rfl) sc_law.nd rfl rfl (by decide) rfl rfl (pa_cons (pe_own O_law_text (hr.mono (by decide)) (by rfl) (pa_cons (pv 1) pa_nil)) (pa_cons (pe_own O_law_text (hr.mono (by decide)) (by rfl) (pa_cons (pv 1) pa_nil)) pa_nil)) (by rfl))
            (pss_cons (ps_for PassesOwn.never rfl (pi_tup (pe_tup (pa_cons (pe_lst pa_nil) (pa_cons (pe_lst (pa_cons pe_str pa_nil)) (pa_cons (pe_lst (pa_cons pe_str (pa_cons pe_str pa_nil))) pa_nil))))) (pg_name (i := 5) sc_law.nd rfl (.inl rfl))
                (pss_cut (ps_set (i := 6) sc_law.nd rfl (.inl rfl) (pe_ifExp (pt_cmpR op_in_seq pe_str (pv 5) rfl) (pv 4) (pe_own O_law_marked (hr.mono (by decide)) (by rfl) (pa_cons (pv 4) pa_nil))))
                  (pss_cut (ps_set (i := 7) sc_law.nd rfl (.inl rfl) (pe_ifExp (pt_cmpR op_eq (pv 3) pe_str (nomark _)) pe_str (pe_op op_add_str pe_str (pe_own O_law_moved (hr.mono (by decide)) (by rfl) (pa_cons (pv 3) pa_nil)))))
                  (pss_cut (ps_set (i := 7) sc_law.nd rfl (.inl rfl) (pe_op op_add_str (pv 7) (pe_ifExp (pt_cmpR op_eq (pv 6) pe_str (nomark _)) pe_str (pe_op op_add_str pe_str (pe_own O_law_moved (hr.mono (by decide)) (by rfl) (pa_cons (pv 6) pa_nil))))))
                  (pss_cons (ps_set (i := 8) sc_law.nd rfl (.inl rfl) (pe_own O_law_handed (hr.mono (by decide)) (by rfl) (pa_cons (pv 1) (pa_cons (pv 5) pa_nil))))
                  (pss_one (ps_if (pt_cmpR op_ne (pe_own O_difference_text (hr.mono (by decide)) (by rfl) (pa_cons (pv 3) (pa_cons (pv 4) (pa_cons (pv 8) pa_nil)))) (pv 7) (nomark _))
                      (pss_one (ps_ret pe_bl))
                      pss_nil)))))))
            (pss_one (ps_if (PW.pt (pw_or (pt_cmpR op_ne (pe_own O_indented (hr.mono (by decide)) (by rfl) (pa_cons (pv 4) pa_nil)) (pe_own O_law_moved (hr.mono (by decide)) (by rfl) (pa_cons (pv 4) pa_nil)) (nomark _)) (pw_or1 (pt_cmpR op_ne (pe_own O_indented (hr.mono (by decide)) (by rfl) (pa_cons (pv 3) pa_nil)) (pe_own O_law_moved (hr.mono (by decide)) (by rfl) (pa_cons (pv 3) pa_nil)) (nomark _)))))
                (pss_one (ps_ret pe_bl))
                pss_nil)))))
      (pss_one (ps_ret (pe_and (pe_cmpR op_eq (pe_own O_difference_text_d2 (hr.mono (by decide)) (by rfl) (pa_cons pe_str (pa_cons pe_str pa_nil))) pe_str (nomark _)) (pe_one (pe_cmpR op_eq (pe_own O_indented (hr.mono (by decide)) (by rfl) (pa_cons pe_str pa_nil)) pe_str (nomark _)))))))), ?_⟩
    refine ⟨.ref a, rfl, a, ns, rfl, hS, hlen, fun H1 D A1 B s1 dr nD nA => ?_⟩
    refine ⟨14, rfl, by decide, by decide, for_range (n := 14) (fun i σ H5 => ∃ (n : Int) (v2 v3 v4 v5 v6 v7 v8 : Option V), σ = [some (.ref a), some (.ref D), v2, v3, v4, v5, v6, v7, v8] ∧ Drw H5 D A1 B n ∧ n ≤ 100 * i) ⟨0, _, _, _, _, _, _, _, rfl, dr, by omega⟩ ?_ ?_⟩
    · rintro i σ H5 hi ⟨n, v2, v3, v4, v5, v6, v7, v8, rfl, d5, hn⟩
      refine ⟨.ref D, rfl, D, A1, B, n, rfl, d5, by omega, fun H6 w n6 d6 hn6 k6 ow lw => ?_⟩
      refine ⟨.ref D, rfl, D, A1, B, n6, rfl, d6, by omega, fun H7 g n7 d7 hn7 k7 og lg => ?_⟩
      refine ⟨_, _, rfl, ?_⟩
      -- the rules
      refine ⟨Nat.zero_le _, fun R1 nR1 => ?_⟩
      have sR1 := same_new (o := .lst []) nR1
      have tR1 : (upd H7 R1 (.lst [])) R1 = some (.lst []) := upd_same
      have z1 := fresh_ne d7 nR1
      have d11 := d7.same sR1
      generalize upd H7 R1 (.lst []) = H11 at sR1 tR1 d11 ⊢
      refine ⟨by show 1 ≤ sizeLine; decide, fun R2 nR2 => ?_⟩
      have sR2 := same_new (o := .lst [.str "DONT_ACCEPT_BLANKLINE"]) nR2
      have tR2 : (upd H11 R2 (.lst [.str "DONT_ACCEPT_BLANKLINE"])) R2 = some (.lst [.str "DONT_ACCEPT_BLANKLINE"]) := upd_same
      have z2 := fresh_ne d11 nR2
      have d12 := d11.same sR2
      generalize upd H11 R2 (.lst [.str "DONT_ACCEPT_BLANKLINE"]) = H12 at sR2 tR2 d12 ⊢
      refine ⟨by show 2 ≤ sizeLine; decide, fun R3 nR3 => ?_⟩
      have sR3 := same_new (o := .lst [.str "ELLIPSIS", .str "NORMALIZE_WHITESPACE"]) nR3
      have tR3 : (upd H12 R3 (.lst [.str "ELLIPSIS", .str "NORMALIZE_WHITESPACE"])) R3 = some (.lst [.str "ELLIPSIS", .str "NORMALIZE_WHITESPACE"]) := upd_same
      have z3 := fresh_ne d12 nR3
      have d13 := d12.same sR3
      generalize upd H12 R3 (.lst [.str "ELLIPSIS", .str "NORMALIZE_WHITESPACE"]) = H13 at sR3 tR3 d13 ⊢
      refine ⟨by show 3 ≤ sizeLine; decide, fun T nT => ?_⟩
      have sT := same_new (o := .tup [.ref R1, .ref R2, .ref R3]) nT
      have tT : (upd H13 T (.tup [.ref R1, .ref R2, .ref R3])) T = some (.tup [.ref R1, .ref R2, .ref R3]) := upd_same
      have TD := fresh_ne d13 nT
      have dT := d13.same sT
      have good : ∀ x ∈ [V.ref R1, .ref R2, .ref R3], ∃ (R : Addr) (rs : List Str), x = .ref R ∧ (upd H13 T (.tup [.ref R1, .ref R2, .ref R3])) R = some (.lst (rs.map V.str)) ∧ R ≠ D ∧ R ≠ A1 ∧ rs.length ≤ 2 ∧ (∀ z ∈ rs, okS z ∧ has z v_FLAGS = true) := by
        intro x hx
        simp only [List.mem_cons, List.not_mem_nil, or_false] at hx
        rcases hx with rfl | rfl | rfl
        · exact ⟨R1, [], rfl, sT _ _ (sR3 _ _ (sR2 _ _ tR1)), z1.1, z1.2, by decide, by intro z h; cases h⟩
        · exact ⟨R2, ["DONT_ACCEPT_BLANKLINE"], rfl, sT _ _ (sR3 _ _ tR2), z2.1, z2.2, by show 1 ≤ 2; decide, fa1⟩
        · exact ⟨R3, ["ELLIPSIS", "NORMALIZE_WHITESPACE"], rfl, sT _ _ tR3, z3.1, z3.2, by show 2 ≤ 2; decide, fa2⟩
      generalize upd H13 T (.tup [.ref R1, .ref R2, .ref R3]) = H14 at tT dT good ⊢
      refine ⟨T, rfl, ⟨_, SqT.of tT⟩, for_tup (K := K) (a := T) (xs := [V.ref R1, .ref R2, .ref R3]) (fun i' σ H8 => ∃ (m : Int) (v5 v6 v7 v8 : Option V), σ = [some (.ref a), some (.ref D), some (.int (0 + (i : Int))), some (.str w), some (.str g), v5, v6, v7, v8] ∧ Drw H8 D A1 B m ∧ m ≤ n7 + 10 * i' ∧ Kept D A1 H14 H8) ⟨n7, _, _, _, _, rfl, dT, by omega, Kept.refl⟩ (fun i' σ H8 _ h => by obtain ⟨_, _, _, _, _, _, _, _, kp⟩ := h; exact SqT.of (kp _ _ tT TD.1 TD.2)) ?_ ?_⟩
      · rintro i' x σ H8 hx ⟨m, v5, v6, v7, v8, rfl, d8, hm, kp8⟩
        have hi' : i' < 3 := (List.getElem?_eq_some_iff.mp hx).1
        obtain ⟨R, rs, rfl, eR0, RD, RA, lrs, hrs⟩ := good x (List.mem_of_getElem? hx)
        have eR := kp8 _ _ eR0 RD RA
        -- shown
        refine ⟨fun σ' H' => ∃ sh : Str, σ' = [some (.ref a), some (.ref D), some (.int (0 + (i : Int))), some (.str w), some (.str g), some (.ref R), some (.str sh), v7, v8] ∧ Same H8 H' ∧ tl sh = shownL rs (tl g), ?_, ?_⟩
        · refine ⟨.ref R, rfl, R, _, rfl, .inl (SqL.of eR), rfl, flat_strs rs, _, rfl, ?_⟩
          rw [inV_str]
          unfold shownL
          cases h : has "DONT_ACCEPT_BLANKLINE" rs with
          | true => exact iteT ⟨.str g, rfl, g, rfl, fun _ _ e => e, rfl⟩
          | false => exact iteF ⟨.str g, rfl, g, rfl, by omega, og, fun H9 s s9 es => ⟨s, rfl, s9, es⟩⟩
        rintro σ' H9 ⟨sh, rfl, s9, hsh⟩
        have lsh : sh.length ≤ 2000 := by
          rw [len_tl, hsh]
          unfold shownL
          have := mkd_len (tl g)
          rw [← len_tl] at this
          cases has "DONT_ACCEPT_BLANKLINE" rs with
          | true =>
            show (tl g).length ≤ _
            rw [← len_tl]
            omega
          | false =>
            show (mkd [] (tl g)).length ≤ _
            omega
        obtain ⟨q1, q2, q3, q4⟩ := l_exp
        -- due
        refine ⟨fun σ' H' => ∃ du : Str, σ' = [some (.ref a), some (.ref D), some (.int (0 + (i : Int))), some (.str w), some (.str g), some (.ref R), some (.str sh), some (.str du), v8] ∧ Same H8 H' ∧ tl du = toldL (tl "Expected") (tl w) ∧ du.length ≤ 12000, ?_, ?_⟩
        · refine ⟨.str w, rfl, rfl, _, rfl, ?_⟩
          rw [dec_strs, empty_iff]
          unfold toldL
          cases h : (tl w).isEmpty with
          | true => exact iteT ⟨_, rfl, s9, h_exp, by omega⟩
          | false =>
            refine iteF ⟨.str w, rfl, w, rfl, by omega, fun H10 s s10 es ls => ?_⟩
            have la := len_app "Expected:\n" s
            refine ⟨_, _, rfl, rfl, line_of (by omega), _, rfl, s9.trans s10, ?_, by omega⟩
            rw [tl_append, es, h_exp2, List.append_assoc]
            rfl
        rintro σ' H10 ⟨d1, rfl, s10, hd1, ld1⟩
        refine ⟨fun σ' H' => ∃ du : Str, σ' = [some (.ref a), some (.ref D), some (.int (0 + (i : Int))), some (.str w), some (.str g), some (.ref R), some (.str sh), some (.str du), v8] ∧ Same H8 H' ∧ tl du = diffL rs (tl w) (tl g), ?_, ?_⟩
        · refine ⟨.str d1, rfl, .str sh, rfl, rfl, _, rfl, ?_⟩
          rw [dec_strs, empty_iff]
          unfold diffL
          rw [← hsh, ← hd1]
          unfold toldL
          cases h : (tl sh).isEmpty with
          | true =>
            refine iteT ⟨_, _, rfl, rfl, line_of (by omega), _, rfl, s10, ?_⟩
            rw [tl_append, h_got]
            rfl
          | false =>
            refine iteF ⟨.str sh, rfl, sh, rfl, lsh, fun H11 s s11 es ls => ?_⟩
            have la := len_app "Got:\n" s
            refine ⟨_, _, rfl, rfl, line_of (by omega), _, _, rfl, rfl, line_of (by omega), _, rfl, s10.trans s11, ?_⟩
            rw [tl_append, tl_append, es, h_got2, List.append_assoc (tl "Got")]
            rfl
        rintro σ' H11 ⟨du, rfl, s11, hdu⟩
        have eR11 := s11 _ _ eR
        have d11 := d8.same s11
        -- flags
        refine ⟨.ref D, rfl, .ref R, rfl, D, A1, B, R, m, rs, rfl, d11, by omega, eR11, RD, RA, by omega, fun x hx => (hrs x hx).1, fun H12 Fq xs n12 d12 hn12 k12 sq mem => ?_⟩
        refine ⟨.str w, rfl, .str g, rfl, .ref Fq, rfl, w, g, Fq, xs, rfl, by omega, by omega, sq.elim (fun e => .inl (SqL.of e)) (fun e => .inr (SqT.of e)), fun z hz => (hrs z ((mem z).mp hz)).2, fun H15 s s15 es => ⟨.str du, rfl, rfl, _, rfl, ?_⟩⟩
        have eh : has "DONT_ACCEPT_BLANKLINE" xs = has "DONT_ACCEPT_BLANKLINE" rs := by
          rw [Bool.eq_iff_iff, has_iff, has_iff]
          exact mem _
        have eq : tl s = tl du := by
          rw [es, hdu]
          unfold diffL shownL
          rw [eh]
        rw [dec_strs, decide_eq_true eq]
        exact iteF ⟨n12, _, _, _, _, rfl, d12.same s15, by omega, fun b o e n1 n2 => s15 _ _ (k12 _ _ (s11 _ _ (kp8 b o e n1 n2)) n1 n2)⟩
      · rintro σ H8 ⟨m, v5, v6, v7, v8, rfl, d8, hm, kp8⟩
        have hm' : m ≤ n7 + 10 * (3 : Nat) := hm
        refine ⟨.str g, rfl, g, rfl, by omega, fun H9 s s9 es => ⟨.str g, rfl, g, rfl, by omega, fun H10 t s10 et _ => ⟨rfl, _, rfl, ?_⟩⟩⟩
        rw [dec_strs, decide_eq_true (es.trans et.symm)]
        refine iteF ⟨.str w, rfl, w, rfl, by omega, fun H11 s s11 es => ⟨.str w, rfl, w, rfl, by omega, fun H12 t s12 et _ => ⟨rfl, _, rfl, ?_⟩⟩⟩
        rw [dec_strs, decide_eq_true (es.trans et.symm)]
        exact iteF ⟨m, _, _, _, _, _, _, _, rfl, (((d8.same s9).same s10).same s11).same s12, by omega⟩
    · rintro σ H5 ⟨n, v2, v3, v4, v5, v6, v7, v8, rfl, d5, hn⟩
      refine ⟨_, _, E_difference_text0, [], rfl, by decide +kernel, by decide +kernel, .inr (Q_E_difference_text0 H5), (by intro z h; cases h), fun H7 s s7 es => ⟨rfl, _, rfl, ?_⟩⟩
      rw [dec_strs, decide_eq_true (es.trans end1)]
      refine iteT ⟨"", rfl, by decide +kernel, fun H8 t s8 et => ⟨rfl, ?_⟩⟩
      have e0 : tl t = tl "" := by
        rw [et, tl_empty]
        rfl
      rw [dec_strs, decide_eq_true e0]
      exact k H8
end
set_option maxHeartbeats 0
theorem all_mk {l : PySem.W.OpenLaw} {w : World} {K : PySem.W.Frag} {h : Heap} {mg : Str → Option Value} {fa : Addr} {f0 : Addr} {od0 an0 : Option Addr} {sl0 : Array (Option Value)} {oc0 kV0 dc0 pm0 cd0 ct0 : Value}
    {f1 : Addr} {od1 an1 : Option Addr} {sl1 : Array (Option Value)} {oc1 kV1 dc1 pm1 cd1 ct1 : Value}
    {f2 : Addr} {od2 an2 : Option Addr} {sl2 : Array (Option Value)} {oc2 kV2 dc2 pm2 cd2 ct2 : Value}
    {f3 : Addr} {od3 an3 : Option Addr} {sl3 : Array (Option Value)} {oc3 kV3 dc3 pm3 cd3 ct3 : Value}
    {f4 : Addr} {od4 an4 : Option Addr} {sl4 : Array (Option Value)} {oc4 kV4 dc4 pm4 cd4 ct4 : Value}
    {f5 : Addr} {od5 an5 : Option Addr} {sl5 : Array (Option Value)} {oc5 kV5 dc5 pm5 cd5 ct5 : Value}
    {E5_0 : Addr} {Ed5_0 : Option Addr} {En5_0 : Nat} {Es5_0 : Array (Option Value)}
    {T5 : Addr} {Tc5 : Value} {Td5 : Option Addr} {Tn5 : Nat} {Ts5 : Array (Option Value)}
    {f6 : Addr} {od6 an6 : Option Addr} {sl6 : Array (Option Value)} {oc6 kV6 dc6 pm6 cd6 ct6 : Value}
    {f7 : Addr} {od7 an7 : Option Addr} {sl7 : Array (Option Value)} {oc7 kV7 dc7 pm7 cd7 ct7 : Value}
    {f8 : Addr} {od8 an8 : Option Addr} {sl8 : Array (Option Value)} {oc8 kV8 dc8 pm8 cd8 ct8 : Value}
    {f9 : Addr} {od9 an9 : Option Addr} {sl9 : Array (Option Value)} {oc9 kV9 dc9 pm9 cd9 ct9 : Value}
    {f10 : Addr} {od10 an10 : Option Addr} {sl10 : Array (Option Value)} {oc10 kV10 dc10 pm10 cd10 ct10 : Value}
    {f11 : Addr} {od11 an11 : Option Addr} {sl11 : Array (Option Value)} {oc11 kV11 dc11 pm11 cd11 ct11 : Value}
    {f12 : Addr} {od12 an12 : Option Addr} {sl12 : Array (Option Value)} {oc12 kV12 dc12 pm12 cd12 ct12 : Value}
    {f13 : Addr} {od13 an13 : Option Addr} {sl13 : Array (Option Value)} {oc13 kV13 dc13 pm13 cd13 ct13 : Value}
    {f14 : Addr} {od14 an14 : Option Addr} {sl14 : Array (Option Value)} {oc14 kV14 dc14 pm14 cd14 ct14 : Value}
    {a_FLAGS : Addr} {ad_FLAGS : Option Addr} {an_FLAGS : Nat} {as_FLAGS : Array (Option Value)} {t_FLAGS0 t_FLAGS1 t_FLAGS2 t_FLAGS3 t_FLAGS4 t_FLAGS5 t_FLAGS6 t_FLAGS7 : Tok}
    {t_MARK : Tok}
    {t_NO_BLANKLINE : Tok} (X : K.In h) (G : h.Ns mainGlobals mg) (hfa : mg "law" = some (.ref fa))
    (a0 : PySem.W.nsIn K mainGlobals "is_flag" = some (some (.ref f0))) (l0 : K.lookup f0 = some ⟨oc0, od0, .func (PySem.W.fnOf "is_flag" "is_flag" (defArgs s_is_flag) (defBody s_is_flag) (defScope s_is_flag) .none kV0 dc0 pm0 an0 cd0 ct0), sl0⟩) (e0 : PySem.W.codeIn K cd0 "is_flag" = true) (k0 : PySem.W.keepIn K (.ref f0) = true)
    (a1 : PySem.W.nsIn K mainGlobals "require_flags" = some (some (.ref f1))) (l1 : K.lookup f1 = some ⟨oc1, od1, .func (PySem.W.fnOf "require_flags" "require_flags" (defArgs s_require_flags) (defBody s_require_flags) (defScope s_require_flags) .none kV1 dc1 pm1 an1 cd1 ct1), sl1⟩) (e1 : PySem.W.codeIn K cd1 "require_flags" = true) (k1 : PySem.W.keepIn K (.ref f1) = true)
    (a2 : PySem.W.nsIn K mainGlobals "indented" = some (some (.ref f2))) (l2 : K.lookup f2 = some ⟨oc2, od2, .func (PySem.W.fnOf "indented" "indented" (defArgs s_indented) (defBody s_indented) (defScope s_indented) .none kV2 dc2 pm2 an2 cd2 ct2), sl2⟩) (e2 : PySem.W.codeIn K cd2 "indented" = true) (k2 : PySem.W.keepIn K (.ref f2) = true)
    (a3 : PySem.W.nsIn K mainGlobals "told" = some (some (.ref f3))) (l3 : K.lookup f3 = some ⟨oc3, od3, .func (PySem.W.fnOf "told" "told" (defArgs s_told) (defBody s_told) (defScope s_told) .none kV3 dc3 pm3 an3 cd3 ct3), sl3⟩) (e3 : PySem.W.codeIn K cd3 "told" = true) (k3 : PySem.W.keepIn K (.ref f3) = true)
    (a4 : PySem.W.nsIn K mainGlobals "blanks_marked" = some (some (.ref f4))) (l4 : K.lookup f4 = some ⟨oc4, od4, .func (PySem.W.fnOf "blanks_marked" "blanks_marked" (defArgs s_blanks_marked) (defBody s_blanks_marked) (defScope s_blanks_marked) .none kV4 dc4 pm4 an4 cd4 ct4), sl4⟩) (e4 : PySem.W.codeIn K cd4 "blanks_marked" = true) (k4 : PySem.W.keepIn K (.ref f4) = true)
    (a5 : PySem.W.nsIn K mainGlobals "difference_text" = some (some (.ref f5))) (l5 : K.lookup f5 = some ⟨oc5, od5, .func (PySem.W.fnOf "difference_text" "difference_text" (defArgs s_difference_text) (defBody s_difference_text) (defScope s_difference_text) (.ref T5) kV5 dc5 pm5 an5 cd5 ct5), sl5⟩) (e5 : PySem.W.codeIn K cd5 "difference_text" = true) (k5 : PySem.W.keepIn K (.ref f5) = true)
    (t5 : K.lookup T5 = some ⟨Tc5, Td5, .seq #[.ref E5_0] Tn5, Ts5⟩) (u5_0 : K.lookup E5_0 = some ⟨.type "tuple", Ed5_0, .seq #[] En5_0, Es5_0⟩)
    (a6 : PySem.W.nsIn K mainGlobals "_law_draws" = some (some (.ref f6))) (l6 : K.lookup f6 = some ⟨oc6, od6, .func (PySem.W.fnOf "_law_draws" "_law_draws" (defArgs s_law_draws) (defBody s_law_draws) (defScope s_law_draws) .none kV6 dc6 pm6 an6 cd6 ct6), sl6⟩) (e6 : PySem.W.codeIn K cd6 "_law_draws" = true) (k6 : PySem.W.keepIn K (.ref f6) = true)
    (a7 : PySem.W.nsIn K mainGlobals "_law_mixed" = some (some (.ref f7))) (l7 : K.lookup f7 = some ⟨oc7, od7, .func (PySem.W.fnOf "_law_mixed" "_law_mixed" (defArgs s_law_mixed) (defBody s_law_mixed) (defScope s_law_mixed) .none kV7 dc7 pm7 an7 cd7 ct7), sl7⟩) (e7 : PySem.W.codeIn K cd7 "_law_mixed" = true) (k7 : PySem.W.keepIn K (.ref f7) = true)
    (a8 : PySem.W.nsIn K mainGlobals "_law_take" = some (some (.ref f8))) (l8 : K.lookup f8 = some ⟨oc8, od8, .func (PySem.W.fnOf "_law_take" "_law_take" (defArgs s_law_take) (defBody s_law_take) (defScope s_law_take) .none kV8 dc8 pm8 an8 cd8 ct8), sl8⟩) (e8 : PySem.W.codeIn K cd8 "_law_take" = true) (k8 : PySem.W.keepIn K (.ref f8) = true)
    (a9 : PySem.W.nsIn K mainGlobals "_law_pick" = some (some (.ref f9))) (l9 : K.lookup f9 = some ⟨oc9, od9, .func (PySem.W.fnOf "_law_pick" "_law_pick" (defArgs s_law_pick) (defBody s_law_pick) (defScope s_law_pick) .none kV9 dc9 pm9 an9 cd9 ct9), sl9⟩) (e9 : PySem.W.codeIn K cd9 "_law_pick" = true) (k9 : PySem.W.keepIn K (.ref f9) = true)
    (a10 : PySem.W.nsIn K mainGlobals "_law_handed" = some (some (.ref f10))) (l10 : K.lookup f10 = some ⟨oc10, od10, .func (PySem.W.fnOf "_law_handed" "_law_handed" (defArgs s_law_handed) (defBody s_law_handed) (defScope s_law_handed) .none kV10 dc10 pm10 an10 cd10 ct10), sl10⟩) (e10 : PySem.W.codeIn K cd10 "_law_handed" = true) (k10 : PySem.W.keepIn K (.ref f10) = true)
    (a11 : PySem.W.nsIn K mainGlobals "_law_text" = some (some (.ref f11))) (l11 : K.lookup f11 = some ⟨oc11, od11, .func (PySem.W.fnOf "_law_text" "_law_text" (defArgs s_law_text) (defBody s_law_text) (defScope s_law_text) .none kV11 dc11 pm11 an11 cd11 ct11), sl11⟩) (e11 : PySem.W.codeIn K cd11 "_law_text" = true) (k11 : PySem.W.keepIn K (.ref f11) = true)
    (a12 : PySem.W.nsIn K mainGlobals "_law_moved" = some (some (.ref f12))) (l12 : K.lookup f12 = some ⟨oc12, od12, .func (PySem.W.fnOf "_law_moved" "_law_moved" (defArgs s_law_moved) (defBody s_law_moved) (defScope s_law_moved) .none kV12 dc12 pm12 an12 cd12 ct12), sl12⟩) (e12 : PySem.W.codeIn K cd12 "_law_moved" = true) (k12 : PySem.W.keepIn K (.ref f12) = true)
    (a13 : PySem.W.nsIn K mainGlobals "_law_marked" = some (some (.ref f13))) (l13 : K.lookup f13 = some ⟨oc13, od13, .func (PySem.W.fnOf "_law_marked" "_law_marked" (defArgs s_law_marked) (defBody s_law_marked) (defScope s_law_marked) .none kV13 dc13 pm13 an13 cd13 ct13), sl13⟩) (e13 : PySem.W.codeIn K cd13 "_law_marked" = true) (k13 : PySem.W.keepIn K (.ref f13) = true)
    (a14 : PySem.W.nsIn K mainGlobals "law" = some (some (.ref f14))) (l14 : K.lookup f14 = some ⟨oc14, od14, .func (PySem.W.fnOf "law" "law" (defArgs s_law) (defBody s_law) (defScope s_law) .none kV14 dc14 pm14 an14 cd14 ct14), sl14⟩) (e14 : PySem.W.codeIn K cd14 "law" = true) (k14 : PySem.W.keepIn K (.ref f14) = true)
    (y_FLAGS : PySem.W.nsIn K mainGlobals "FLAGS" = some (some (.ref a_FLAGS))) (x_FLAGS : K.lookup a_FLAGS = some ⟨.type "tuple", ad_FLAGS, .seq #[.str "DONT_ACCEPT_TRUE_FOR_1" t_FLAGS0, .str "DONT_ACCEPT_BLANKLINE" t_FLAGS1, .str "NORMALIZE_WHITESPACE" t_FLAGS2, .str "ELLIPSIS" t_FLAGS3, .str "SKIP" t_FLAGS4, .str "IGNORE_EXCEPTION_DETAIL" t_FLAGS5, .str "REPORT_ONLY_FIRST_FAILURE" t_FLAGS6, .str "FAIL_FAST" t_FLAGS7] an_FLAGS, as_FLAGS⟩)
    (y_MARK : PySem.W.nsIn K mainGlobals "MARK" = some (some (.str "<BLANKLINE>" t_MARK)))
    (y_NO_BLANKLINE : PySem.W.nsIn K mainGlobals "NO_BLANKLINE" = some (some (.str "DONT_ACCEPT_BLANKLINE" t_NO_BLANKLINE)))
    (z_int : PySem.W.nsIn K mainGlobals "int" = some none)
    (z_isinstance : PySem.W.nsIn K mainGlobals "isinstance" = some none)
    (z_len : PySem.W.nsIn K mainGlobals "len" = some none)
    (z_list : PySem.W.nsIn K mainGlobals "list" = some none)
    (z_range : PySem.W.nsIn K mainGlobals "range" = some none)
    (z_str : PySem.W.nsIn K mainGlobals "str" = some none)
    (z_tuple : PySem.W.nsIn K mainGlobals "tuple" = some none)
    :
    ∃ fd : FuncData, (∀ (s : Shared) (v : Value), BindsTo s fd ⟨[v], []⟩ [("script", v)]) ∧ ∀ base : Heap, K.In base → base.Ns mainGlobals mg → FnOk l.prog w K mg base CX0 5 fa fd ["script"] (sp_law K) := by
  have e := hfa.symm.trans (PySem.W.mg_of X G a14)
  cases e
  have F0 : Fn K "is_flag" s_is_flag [] _ _ := Fn.mk' l0 e0 k0 (.inl ⟨rfl, rfl⟩)
  have F1 : Fn K "require_flags" s_require_flags [] _ _ := Fn.mk' l1 e1 k1 (.inl ⟨rfl, rfl⟩)
  have F2 : Fn K "indented" s_indented [] _ _ := Fn.mk' l2 e2 k2 (.inl ⟨rfl, rfl⟩)
  have F3 : Fn K "told" s_told [] _ _ := Fn.mk' l3 e3 k3 (.inl ⟨rfl, rfl⟩)
  have F4 : Fn K "blanks_marked" s_blanks_marked [] _ _ := Fn.mk' l4 e4 k4 (.inl ⟨rfl, rfl⟩)
  have F5 : Fn K "difference_text" s_difference_text [.ref E5_0] _ _ := Fn.mk' l5 e5 k5 (.inr ⟨by simp, T5, _, _, _, rfl, t5, rfl, (.cons rfl .nil)⟩)
  have Q_E_difference_text0 : ∀ H, SqT K H E5_0 [] := fun H => .inr ⟨_, #[], _, u5_0, rfl, rfl, by decide, .nil⟩
  have F6 : Fn K "_law_draws" s_law_draws [] _ _ := Fn.mk' l6 e6 k6 (.inl ⟨rfl, rfl⟩)
  have F7 : Fn K "_law_mixed" s_law_mixed [] _ _ := Fn.mk' l7 e7 k7 (.inl ⟨rfl, rfl⟩)
  have F8 : Fn K "_law_take" s_law_take [] _ _ := Fn.mk' l8 e8 k8 (.inl ⟨rfl, rfl⟩)
  have F9 : Fn K "_law_pick" s_law_pick [] _ _ := Fn.mk' l9 e9 k9 (.inl ⟨rfl, rfl⟩)
  have F10 : Fn K "_law_handed" s_law_handed [] _ _ := Fn.mk' l10 e10 k10 (.inl ⟨rfl, rfl⟩)
  have F11 : Fn K "_law_text" s_law_text [] _ _ := Fn.mk' l11 e11 k11 (.inl ⟨rfl, rfl⟩)
  have F12 : Fn K "_law_moved" s_law_moved [] _ _ := Fn.mk' l12 e12 k12 (.inl ⟨rfl, rfl⟩)
  have F13 : Fn K "_law_marked" s_law_marked [] _ _ := Fn.mk' l13 e13 k13 (.inl ⟨rfl, rfl⟩)
  have F14 : Fn K "law" s_law [] _ _ := Fn.mk' l14 e14 k14 (.inl ⟨rfl, rfl⟩)
  have m_int : mg "int" = none := PySem.W.mg_none_of X G z_int
  have m_isinstance : mg "isinstance" = none := PySem.W.mg_none_of X G z_isinstance
  have m_len : mg "len" = none := PySem.W.mg_none_of X G z_len
  have m_list : mg "list" = none := PySem.W.mg_none_of X G z_list
  have m_range : mg "range" = none := PySem.W.mg_none_of X G z_range
  have m_str : mg "str" = none := PySem.W.mg_none_of X G z_str
  have m_tuple : mg "tuple" = none := PySem.W.mg_none_of X G z_tuple
  have c_FLAGS := PySem.W.mg_of X G y_FLAGS
  have q_FLAGS : ∀ H, SqT K H a_FLAGS (v_FLAGS.map V.str) := fun H => .inr ⟨_, _, _, x_FLAGS, rfl, rfl, by show 8 ≤ sizeLine; decide, (.cons ⟨_, rfl⟩ (.cons ⟨_, rfl⟩ (.cons ⟨_, rfl⟩ (.cons ⟨_, rfl⟩ (.cons ⟨_, rfl⟩ (.cons ⟨_, rfl⟩ (.cons ⟨_, rfl⟩ (.cons ⟨_, rfl⟩ .nil))))))))⟩
  have c_MARK := PySem.W.mg_of X G y_MARK
  have c_NO_BLANKLINE := PySem.W.mg_of X G y_NO_BLANKLINE
  refine ⟨PySem.W.fnOf "law" "law" (defArgs s_law) (defBody s_law) (defScope s_law) .none kV14 dc14 pm14 an14 cd14 ct14, fun s v => .of_eq rfl, fun base _ _ => ?_⟩
  have O_is_flag : Own l.prog w K mg base "is_flag" 1 ["thing"] [] (sp_is_flag) := by
    exact ⟨_, _, [], ok_is_flag F0 m_isinstance m_str c_FLAGS q_FLAGS, PySem.W.mg_of X G a0, F0.kp, F0.bindsN (ps := ["thing"]) (fun _ _ _ _ _ _ us hl => match us, hl with | [_], _ => rfl), .nil⟩
  have O_indented : Own l.prog w K mg base "indented" 1 ["text"] [] (sp_indented) := by
    exact ⟨_, _, [], ok_indented F2, PySem.W.mg_of X G a2, F2.kp, F2.bindsN (ps := ["text"]) (fun _ _ _ _ _ _ us hl => match us, hl with | [_], _ => rfl), .nil⟩
  have O_blanks_marked : Own l.prog w K mg base "blanks_marked" 1 ["got"] [] (sp_blanks_marked) := by
    exact ⟨_, _, [], ok_blanks_marked F4 c_MARK, PySem.W.mg_of X G a4, F4.kp, F4.bindsN (ps := ["got"]) (fun _ _ _ _ _ _ us hl => match us, hl with | [_], _ => rfl), .nil⟩
  have O_law_draws : Own l.prog w K mg base "_law_draws" 1 ["script"] [] (sp_law_draws K) := by
    exact ⟨_, _, [], ok_law_draws F6, PySem.W.mg_of X G a6, F6.kp, F6.bindsN (ps := ["script"]) (fun _ _ _ _ _ _ us hl => match us, hl with | [_], _ => rfl), .nil⟩
  have O_law_mixed : Own l.prog w K mg base "_law_mixed" 1 ["seed", "k"] [] (sp_law_mixed) := by
    exact ⟨_, _, [], ok_law_mixed F7 m_int, PySem.W.mg_of X G a7, F7.kp, F7.bindsN (ps := ["seed", "k"]) (fun _ _ _ _ _ _ us hl => match us, hl with | [_, _], _ => rfl), .nil⟩
  have O_law_moved : Own l.prog w K mg base "_law_moved" 1 ["text"] [] (sp_law_moved) := by
    exact ⟨_, _, [], ok_law_moved F12, PySem.W.mg_of X G a12, F12.kp, F12.bindsN (ps := ["text"]) (fun _ _ _ _ _ _ us hl => match us, hl with | [_], _ => rfl), .nil⟩
  have O_law_marked : Own l.prog w K mg base "_law_marked" 1 ["text"] [] (sp_law_marked) := by
    exact ⟨_, _, [], ok_law_marked F13, PySem.W.mg_of X G a13, F13.kp, F13.bindsN (ps := ["text"]) (fun _ _ _ _ _ _ us hl => match us, hl with | [_], _ => rfl), .nil⟩
  have O_require_flags : Own l.prog w K mg base "require_flags" 2 ["flags"] [] (sp_require_flags K) := by
    exact ⟨_, _, [], ok_require_flags F1 O_is_flag, PySem.W.mg_of X G a1, F1.kp, F1.bindsN (ps := ["flags"]) (fun _ _ _ _ _ _ us hl => match us, hl with | [_], _ => rfl), .nil⟩
  have O_told : Own l.prog w K mg base "told" 2 ["head", "text"] [] (sp_told) := by
    exact ⟨_, _, [], ok_told F3 O_indented, PySem.W.mg_of X G a3, F3.kp, F3.bindsN (ps := ["head", "text"]) (fun _ _ _ _ _ _ us hl => match us, hl with | [_, _], _ => rfl), .nil⟩
  have O_law_take : Own l.prog w K mg base "_law_take" 2 ["draws", "size"] [] (sp_law_take) := by
    exact ⟨_, _, [], ok_law_take F8 O_law_mixed m_int m_len, PySem.W.mg_of X G a8, F8.kp, F8.bindsN (ps := ["draws", "size"]) (fun _ _ _ _ _ _ us hl => match us, hl with | [_, _], _ => rfl), .nil⟩
  have O_difference_text : Own l.prog w K mg base "difference_text" 3 ["want", "got", "flags"] [] (sp_difference_text K) := by
    obtain ⟨ds, vd, bd⟩ := F5.binds1 (ps := ["want", "got", "flags"]) 3 1 (by simp) rfl (fun T kV doc pm an cdv ct us its h1 h2 => match us, its, h1, h2 with | [_, _, _], [_], _, _ => ⟨_, rfl, rfl⟩)
    exact ⟨_, _, ds, ok_difference_text F5 O_require_flags O_blanks_marked O_told c_NO_BLANKLINE, PySem.W.mg_of X G a5, F5.kp, bd, vd⟩
  have O_difference_text_d2 : Own l.prog w K mg base "difference_text" 3 ["want", "got", "flags"] [.ref E5_0] (sp_difference_text K) := by
    obtain ⟨ds, vd, bd⟩ := F5.binds1 (ps := ["want", "got", "flags"]) 2 0 (by simp) rfl (fun T kV doc pm an cdv ct us its h1 h2 => match us, its, h1, h2 with | [_, _], [_], _, _ => ⟨_, rfl, rfl⟩)
    exact ⟨_, _, ds, ok_difference_text F5 O_require_flags O_blanks_marked O_told c_NO_BLANKLINE, PySem.W.mg_of X G a5, F5.kp, bd, vd⟩
  have O_law_pick : Own l.prog w K mg base "_law_pick" 3 ["draws", "some"] [] (sp_law_pick) := by
    exact ⟨_, _, [], ok_law_pick F9 O_law_take m_len, PySem.W.mg_of X G a9, F9.kp, F9.bindsN (ps := ["draws", "some"]) (fun _ _ _ _ _ _ us hl => match us, hl with | [_, _], _ => rfl), .nil⟩
  have O_law_handed : Own l.prog w K mg base "_law_handed" 3 ["draws", "rules"] [] (sp_law_handed) := by
    exact ⟨_, _, [], ok_law_handed F10 O_law_take m_len m_list m_tuple, PySem.W.mg_of X G a10, F10.kp, F10.bindsN (ps := ["draws", "rules"]) (fun _ _ _ _ _ _ us hl => match us, hl with | [_, _], _ => rfl), .nil⟩
  have O_law_text : Own l.prog w K mg base "_law_text" 4 ["draws"] [] (sp_law_text) := by
    exact ⟨_, _, [], ok_law_text F11 O_law_take O_law_pick m_range, PySem.W.mg_of X G a11, F11.kp, F11.bindsN (ps := ["draws"]) (fun _ _ _ _ _ _ us hl => match us, hl with | [_], _ => rfl), .nil⟩
  exact ok_law F14 O_law_draws O_law_text O_law_marked O_law_moved O_law_handed O_difference_text O_indented Q_E_difference_text0 O_difference_text_d2 m_range
end Pq
open PySem PySem.W PyProof.Rows
set_option maxRecDepth 100000 in
set_option maxHeartbeats 0 in
theorem PySem.Challenge.cw_promptyard_k10_differences_told_holds : PySem.Challenge.rw_promptyard_k10_differences_told.Holds := by
  w_on; o_law; k_head; (case hw => w_witness2)
  k_fill
  refine L2.walk_of (l := PySem.Challenge.rw_promptyard_k10_differences_told) (n := 63) (k := 5) (x := "script") (CX := fun _ => L2.CX0) (sp := fun w => Pq.sp_law _) rfl (by decide) rfl ⟨rfl, by decide, by decide⟩ (fun w h Y => PySem.W.kIn_of Y) ?F (fun _ _ a ns hl _ hS => ⟨a, ns, rfl, hS, hl, fun _ => rfl⟩) (fun _ _ _ _ _ h => h)
  case F =>
    intro w mg fa h KX G hmg
    refine' Pq.all_mk KX G hmg ?a0 ?l0 ?e0 ?k0 ?a1 ?l1 ?e1 ?k1 ?a2 ?l2 ?e2 ?k2 ?a3 ?l3 ?e3 ?k3 ?a4 ?l4 ?e4 ?k4 ?a5 ?l5 ?e5 ?k5 ?t5 ?u5_0 ?a6 ?l6 ?e6 ?k6 ?a7 ?l7 ?e7 ?k7 ?a8 ?l8 ?e8 ?k8 ?a9 ?l9 ?e9 ?k9 ?a10 ?l10 ?e10 ?k10 ?a11 ?l11 ?e11 ?k11 ?a12 ?l12 ?e12 ?k12 ?a13 ?l13 ?e13 ?k13 ?a14 ?l14 ?e14 ?k14 ?y_FLAGS ?x_FLAGS ?y_MARK ?y_NO_BLANKLINE ?z_int ?z_isinstance ?z_len ?z_list ?z_range ?z_str ?z_tuple
    (case a0 => k_is)
    (case l0 => k_is)
    (case e0 => k_is)
    (case k0 => k_is)
    (case a1 => k_is)
    (case l1 => k_is)
    (case e1 => k_is)
    (case k1 => k_is)
    (case a2 => k_is)
    (case l2 => k_is)
    (case e2 => k_is)
    (case k2 => k_is)
    (case a3 => k_is)
    (case l3 => k_is)
    (case e3 => k_is)
    (case k3 => k_is)
    (case a4 => k_is)
    (case l4 => k_is)
    (case e4 => k_is)
    (case k4 => k_is)
    (case a5 => k_is)
    (case l5 => k_is)
    (case e5 => k_is)
    (case k5 => k_is)
    (case t5 => k_is)
    (case u5_0 => k_is)
    (case a6 => k_is)
    (case l6 => k_is)
    (case e6 => k_is)
    (case k6 => k_is)
    (case a7 => k_is)
    (case l7 => k_is)
    (case e7 => k_is)
    (case k7 => k_is)
    (case a8 => k_is)
    (case l8 => k_is)
    (case e8 => k_is)
    (case k8 => k_is)
    (case a9 => k_is)
    (case l9 => k_is)
    (case e9 => k_is)
    (case k9 => k_is)
    (case a10 => k_is)
    (case l10 => k_is)
    (case e10 => k_is)
    (case k10 => k_is)
    (case a11 => k_is)
    (case l11 => k_is)
    (case e11 => k_is)
    (case k11 => k_is)
    (case a12 => k_is)
    (case l12 => k_is)
    (case e12 => k_is)
    (case k12 => k_is)
    (case a13 => k_is)
    (case l13 => k_is)
    (case e13 => k_is)
    (case k13 => k_is)
    (case a14 => k_is)
    (case l14 => k_is)
    (case e14 => k_is)
    (case k14 => k_is)
    (case y_FLAGS => k_is)
    (case x_FLAGS => k_is)
    (case y_MARK => k_is)
    (case y_NO_BLANKLINE => k_is)
    (case z_int => k_is)
    (case z_isinstance => k_is)
    (case z_len => k_is)
    (case z_list => k_is)
    (case z_range => k_is)
    (case z_str => k_is)
    (case z_tuple => k_is)

