import PyProof.Rows.All
import Wide.All
import OpenK.AllK
import Wide.FinOn
import HandS.ForMost
import HandS.Flow
import HandS.Defaults
import HandS.Style
import HandS.IsInst
import HandS.StrMore
import HandS.ReplaceList
import HandS.Deep
import HandS.Conv
import HandS.More
import PyProof.ToksMono
import HandS.ExpandTabs
import HandS.Codes
import HandS.SortKw
import KE.KMinKey
import HandS.List
import PySem.Challenge.RW_promptyard_k69_texts_levelled
set_option Elab.async false
set_option linter.all false
set_option maxRecDepth 100000
namespace Pq
open PySem L2 TL PyProof.Rows
def top (i : Nat) : Stmt := PySem.Challenge.pw_promptyard_k69_texts_levelled.main.body.getD i (.Pass ⟨0, 0, 0, 0⟩)
-- def indent_of at top 1
abbrev s_indent_of : Stmt := top 1
theorem sc_indent_of : FnScope ["line"] ["line"] (defScope s_indent_of) := ⟨rfl, rfl, rfl, by decide +kernel, rfl, by decide +kernel, by decide +kernel⟩
-- cells []
-- def is_blank at top 4
abbrev s_is_blank : Stmt := top 4
theorem sc_is_blank : FnScope ["line"] ["line"] (defScope s_is_blank) := ⟨rfl, rfl, rfl, by decide +kernel, rfl, by decide +kernel, by decide +kernel⟩
-- cells []
-- def widened at top 7
abbrev s_widened : Stmt := top 7
theorem sc_widened : FnScope ["text"] ["text"] (defScope s_widened) := ⟨rfl, rfl, rfl, by decide +kernel, rfl, by decide +kernel, by decide +kernel⟩
-- cells []
-- def levelled at top 8
abbrev s_levelled : Stmt := top 8
theorem sc_levelled : FnScope ["text", "lines", "least", "line"] ["text"] (defScope s_levelled) := ⟨rfl, rfl, rfl, by decide +kernel, rfl, by decide +kernel, by decide +kernel⟩
-- cells ['least']
-- def _law_draws at top 10
abbrev s_law_draws : Stmt := top 10
theorem sc_law_draws : FnScope ["script", "item"] ["script"] (defScope s_law_draws) := ⟨rfl, rfl, rfl, by decide +kernel, rfl, by decide +kernel, by decide +kernel⟩
-- cells []
-- def _law_mixed at top 11
abbrev s_law_mixed : Stmt := top 11
theorem sc_law_mixed : FnScope ["seed", "k", "first"] ["seed", "k"] (defScope s_law_mixed) := ⟨rfl, rfl, rfl, by decide +kernel, rfl, by decide +kernel, by decide +kernel⟩
-- cells []
-- def _law_take at top 12
abbrev s_law_take : Stmt := top 12
theorem sc_law_take : FnScope ["draws", "size", "drawn", "seed", "reach"] ["draws", "size"] (defScope s_law_take) := ⟨rfl, rfl, rfl, by decide +kernel, rfl, by decide +kernel, by decide +kernel⟩
-- cells []
-- def _law_pick at top 13
abbrev s_law_pick : Stmt := top 13
theorem sc_law_pick : FnScope ["draws", "things"] ["draws", "things"] (defScope s_law_pick) := ⟨rfl, rfl, rfl, by decide +kernel, rfl, by decide +kernel, by decide +kernel⟩
-- cells []
-- def _law_text at top 14
abbrev s_law_text : Stmt := top 14
theorem sc_law_text : FnScope ["draws", "most", "signs", "k"] ["draws", "most", "signs"] (defScope s_law_text) := ⟨rfl, rfl, rfl, by decide +kernel, rfl, by decide +kernel, by decide +kernel⟩
-- cells ['draws', 'signs']
-- def _law_wide at top 15
abbrev s_law_wide : Stmt := top 15
theorem sc_law_wide : FnScope ["line", "found", "sign"] ["line"] (defScope s_law_wide) := ⟨rfl, rfl, rfl, by decide +kernel, rfl, by decide +kernel, by decide +kernel⟩
-- cells []
-- def law at top 16
abbrev s_law : Stmt := top 16
theorem sc_law : FnScope ["script", "draws", "turn", "lines", "k", "ahead", "text", "wide", "indents", "least", "due", "line", "sign"] ["script"] (defScope s_law) := ⟨rfl, rfl, rfl, by decide +kernel, rfl, by decide +kernel, by decide +kernel⟩
-- cells ['least']

/-! ### small words -/
theorem same_new {H : Hp} {p : Addr} {o : HO} (h : H p = none) : Same H (upd H p o) := fun b x e => by
  rw [upd_ne (ne_of_none e h)]
  exact e
theorem line_of {n : Nat} (h : n ≤ 1000000) : n ≤ sizeLine := Nat.le_trans h (by decide)
/-- a def of the text, as its callers see it -/
structure Own (P : Program) (w : World) (K : PySem.W.Frag) (mg : Str → Option Value) (base : Heap) (x : Str) (k : Nat) (ps : List Str) (dvs : List V) (sp : Sp) : Prop where
  ex : ∃ f fd ds, FnOk P w K mg base CX0 k f fd ps sp ∧ mg x = some (.ref f) ∧ PySem.W.keepIn K (.ref f) = true ∧ Binds K fd ps ds ∧ Vals dvs ds
section
variable {X : Cx} {x : Str} {k : Nat} {ps : List Str} {dvs : List V} {sp : Sp} {e : Expr} {es : List Expr} {t : TA} {p pos : Pos}
theorem Own.mk' {P : Program} {w : World} {K : PySem.W.Frag} {mg : Str → Option Value} {base : Heap} {f : Addr} {fd : FuncData} {ds : List Value} (a : FnOk P w K mg base CX0 k f fd ps sp) (b : mg x = some (.ref f)) (c : PySem.W.keepIn K (.ref f) = true) (d : Binds K fd ps ds) (v : Vals dvs ds) : Own P w K mg base x k ps dvs sp := ⟨_, _, _, a, b, c, d, v⟩
theorem pe_own (O : Own X.prog X.w X.K X.mg X.base x k ps dvs sp) (hr : Room k X.A) (hg : Gl X x) (ha : PA X (e :: es) t) (hdb : (x == ("__debug__" : Str)) = false := by decide) (he : starEach (e :: es) X.env = (false, eval e X.env) :: starEach es X.env := by rfl) (hpl : (backTo pos (starEach es X.env)).any (·.1) = false := by rfl) :
    PE X (.Call (.Name x p) (e :: es) [] pos) (tCall sp dvs E0 t) := by
  obtain ⟨f, fd, ds, F, hm, hk, hb, hd⟩ := O.ex
  exact pe_call F hr hg hm hk hb hd pass0 ha hdb he hpl
theorem pe_own0 (O : Own X.prog X.w X.K X.mg X.base x k ps dvs sp) (hr : Room k X.A) (hg : Gl X x) (hdb : (x == ("__debug__" : Str)) = false := by decide) :
    PE X (.Call (.Name x p) [] [] pos) (tCall sp dvs E0 tNil) := by
  obtain ⟨f, fd, ds, F, hm, hk, hb, hd⟩ := O.ex
  exact pe_call0 F hr hg hm hk hb hd pass0 hdb
/-- a statement, a word about what stands behind it, the rest -/
def tCut (t u : TS) : TS := fun D σ H => ∃ Mid : L2.St → Hp → Prop, t { D with nx := Mid } σ H ∧ ∀ σ' H', Mid σ' H' → u D σ' H'
theorem pss_cut {st : Stmt} {rest : List Stmt} {t u : TS} (h1 : PS X st t) (h2 : PSs X rest u) : PSs X (st :: rest) (tCut t u) := by
  refine ⟨fun pins s σ H D I h => ?_⟩
  obtain ⟨Mid, hm, hu⟩ := h
  refine wpAny_execs_cons (thn (h1.run pins s σ H { D with nx := Mid } I hm) fun f s1 q => ?_)
  cases f with
  | next =>
    obtain ⟨σ', H', I', q⟩ := q
    exact h2.run pins s1 σ' H' D I' (hu σ' H' q)
  | ret v => exact q
  | brk => exact q
  | cont => exact q
end
theorem int_at {ns : List Int} {i : Nat} {x : V} (h : (ns.map V.int)[i]? = some x) : ∃ z, x = V.int z := by
  rw [List.getElem?_map] at h
  cases e : ns[i]? with
  | none =>
    rw [e] at h
    cases h
  | some z =>
    rw [e] at h
    exact ⟨z, (Option.some.inj h).symm⟩

/-! ### steps that want one token out: the judgements of the layer from states with a token -/
section
variable {α : Type} {M : Model} {A : Around} {s : Shared}
theorem thnK {t : Sem α} {Q Q' : α → Shared → Prop} {E : Value → Shared → Prop} (hk : 1 ≤ s.toks) (h : wpAny M A t Q E s) (hQ : ∀ a s', 1 ≤ s'.toks → Q a s' → Q' a s') : wpAny M A t Q' E s :=
  wpAny_mono (PySem.wpAny_toks_of hk h) (fun a s' x => hQ a s' x.1 x.2) fun _ _ x => x.2
end
structure ET (X : Cx) (e : Expr) (t : TE) : Prop where
  run : ∀ (pins : List (Addr × Obj)) (s : Shared) (σ : L2.St) (H : Hp) (Q : VK), 1 ≤ s.toks → Inv X pins σ H s → t σ H Q → wpAny (model X.prog X.w) X.A (eval e X.env) (EP X pins σ Q) X.xe s
structure TT' (X : Cx) (e : Expr) (t : TT) : Prop where
  run : ∀ (pins : List (Addr × Obj)) (s : Shared) (σ : L2.St) (H : Hp) (Q : Bool → Hp → Prop), 1 ≤ s.toks → Inv X pins σ H s → t σ H Q → wpAny (model X.prog X.w) X.A (isTrue e X.env (eval e X.env)) (TP X pins σ Q) X.xe s
structure WT (X : Cx) (e : Expr) (t : TT) : Prop where
  run : ∀ (whole : Sem Value) (pins : List (Addr × Obj)) (s : Shared) (σ : L2.St) (H : Hp) (Q : Bool → Hp → Prop), 1 ≤ s.toks → Inv X pins σ H s → t σ H Q → wpAny (model X.prog X.w) X.A (isTrue e X.env whole) (TP X pins σ Q) X.xe s
structure AT (X : Cx) (es : List Expr) (t : TA) : Prop where
  run : ∀ (pos : Pos) (pins : List (Addr × Obj)) (s : Shared) (σ : L2.St) (H : Hp) (Q : List V → Hp → Prop), 1 ≤ s.toks → Inv X pins σ H s → t σ H Q → wpAny (model X.prog X.w) X.A (spliced (backTo pos (starEach es X.env))) (AP X pins σ Q) X.xe s
structure ST (X : Cx) (st : Stmt) (t : TS) : Prop where
  run : ∀ (pins : List (Addr × Obj)) (s : Shared) (σ : L2.St) (H : Hp) (D : Ends), 1 ≤ s.toks → Inv X pins σ H s → t D σ H → wpAny (model X.prog X.w) X.A (exec st X.env) (SP X pins D) X.xe s
structure BT (X : Cx) (st : List Stmt) (t : TS) : Prop where
  run : ∀ (pins : List (Addr × Obj)) (s : Shared) (σ : L2.St) (H : Hp) (D : Ends), 1 ≤ s.toks → Inv X pins σ H s → t D σ H → wpAny (model X.prog X.w) X.A (execs st X.env) (SP X pins D) X.xe s
/-- the same, and behind it a token is out for sure -/
structure AK (X : Cx) (es : List Expr) (t : TA) : Prop where
  run : ∀ (pos : Pos) (pins : List (Addr × Obj)) (s : Shared) (σ : L2.St) (H : Hp) (Q : List V → Hp → Prop), Inv X pins σ H s → t σ H Q → wpAny (model X.prog X.w) X.A (spliced (backTo pos (starEach es X.env))) (fun us s' => 1 ≤ s'.toks ∧ AP X pins σ Q us s') X.xe s
structure EK (X : Cx) (e : Expr) (t : TE) : Prop where
  run : ∀ (pins : List (Addr × Obj)) (s : Shared) (σ : L2.St) (H : Hp) (Q : VK), Inv X pins σ H s → t σ H Q → wpAny (model X.prog X.w) X.A (eval e X.env) (fun u s' => 1 ≤ s'.toks ∧ EP X pins σ Q u s') X.xe s
structure SK (X : Cx) (st : Stmt) (t : TS) : Prop where
  run : ∀ (pins : List (Addr × Obj)) (s : Shared) (σ : L2.St) (H : Hp) (D : Ends), Inv X pins σ H s → t D σ H → wpAny (model X.prog X.w) X.A (exec st X.env) (fun f s' => 1 ≤ s'.toks ∧ SP X pins D f s') X.xe s
structure BK (X : Cx) (st : List Stmt) (t : TS) : Prop where
  run : ∀ (pins : List (Addr × Obj)) (s : Shared) (σ : L2.St) (H : Hp) (D : Ends), Inv X pins σ H s → t D σ H → wpAny (model X.prog X.w) X.A (execs st X.env) (fun f s' => 1 ≤ s'.toks ∧ SP X pins D f s') X.xe s
structure FnT (P : Program) (w : World) (K : PySem.W.Frag) (mg : Str → Option Value) (base : Heap) (CX : CXT) (k : Nat) (f : Addr) (fd : FuncData) (ps : List Str) (sp : Sp) : Prop where
  len : ∀ vs H Q E, sp vs H Q E → vs.length = ps.length
  run : ∀ (A : Around) (outer : List Env) (s : Shared) (H : Hp) (args : Args) (us : List Value) (vs : List V) (Q : VK) (E : XK), 1 ≤ s.toks → Room k A → Env0 P w K mg base A outer s H → BindsTo s fd args (ps.zip us) → Vals vs us → sp vs H Q E →
    codeAny (model P w) A (.call (.ref f) args) (CR CX outer P w H s Q E) s
structure FnK (P : Program) (w : World) (K : PySem.W.Frag) (mg : Str → Option Value) (base : Heap) (CX : CXT) (k : Nat) (f : Addr) (fd : FuncData) (ps : List Str) (sp : Sp) : Prop where
  len : ∀ vs H Q E, sp vs H Q E → vs.length = ps.length
  run : ∀ (A : Around) (outer : List Env) (s : Shared) (H : Hp) (args : Args) (us : List Value) (vs : List V) (Q : VK) (E : XK), Room k A → Env0 P w K mg base A outer s H → BindsTo s fd args (ps.zip us) → Vals vs us → sp vs H Q E →
    codeAny (model P w) A (.call (.ref f) args) (fun r s' => ((∃ e, r = .error e) ∨ 1 ≤ s'.toks) ∧ CR CX outer P w H s Q E r s') s
structure OwnT (P : Program) (w : World) (K : PySem.W.Frag) (mg : Str → Option Value) (base : Heap) (x : Str) (k : Nat) (ps : List Str) (dvs : List V) (sp : Sp) : Prop where
  ex : ∃ f fd ds, FnT P w K mg base CX0 k f fd ps sp ∧ mg x = some (.ref f) ∧ PySem.W.keepIn K (.ref f) = true ∧ Binds K fd ps ds ∧ Vals dvs ds
structure OwnK (P : Program) (w : World) (K : PySem.W.Frag) (mg : Str → Option Value) (base : Heap) (x : Str) (k : Nat) (ps : List Str) (dvs : List V) (sp : Sp) : Prop where
  ex : ∃ f fd ds, FnK P w K mg base CX0 k f fd ps sp ∧ mg x = some (.ref f) ∧ PySem.W.keepIn K (.ref f) = true ∧ Binds K fd ps ds ∧ Vals dvs ds
section
variable {X : Cx} {a b c e o : Expr} {es rest' : List Expr} {ta tb tc te to : TE} {uA uB uC : TT} {tx : TA} {pos : Pos} {st : Stmt} {rest bd bd' : List Stmt} {t u : TS}
theorem ET.of (h : PE X e te) : ET X e te := ⟨fun pins s σ H Q _ I q => h.run pins s σ H Q I q⟩
theorem TT'.of (h : PT X e uA) : TT' X e uA := ⟨fun pins s σ H Q _ I q => h.run pins s σ H Q I q⟩
theorem WT.of (h : PW X e uA) : WT X e uA := ⟨fun wh pins s σ H Q _ I q => h.run wh pins s σ H Q I q⟩
theorem WT.pt (h : WT X e uA) : TT' X e uA := ⟨h.run _⟩
theorem AT.of (h : PA X es tx) : AT X es tx := ⟨fun pos pins s σ H Q _ I q => h.run pos pins s σ H Q I q⟩
theorem ST.of (h : PS X st t) : ST X st t := ⟨fun pins s σ H D _ I q => h.run pins s σ H D I q⟩
theorem BT.of (h : PSs X bd t) : BT X bd t := ⟨fun pins s σ H D _ I q => h.run pins s σ H D I q⟩
/-- arguments -/
theorem at_cons (ha : ET X e te) (hr : AT X es tx) (hs : starEach (e :: es) X.env = (false, eval e X.env) :: starEach es X.env := by rfl) : AT X (e :: es) (tCons te tx) := by
  refine ⟨fun pos pins s σ H Q hk I h => ?_⟩
  rw [hs]
  show wpAny _ _ (spliced ((false, eval e X.env) :: backTo pos (starEach es X.env))) _ _ s
  refine Calls.spliced_cons (thnK hk (ha.run pins s σ H _ hk I h) fun v s1 k1 ⟨x, H1, I1, r1, q1⟩ => ?_)
  exact thn (hr.run pos pins s1 σ H1 _ k1 I1 q1) fun us s2 ⟨xs, H2, I2, r2, q2⟩ => ⟨x :: xs, H2, I2, .cons r1 r2, q2⟩
theorem at_nil : AT X [] tNil := .of pa_nil
theorem binK (ha : ET X a ta) (hb : ET X b tb) {pins : List (Addr × Obj)} {s : Shared} {σ : L2.St} {H : Hp} {R : V → V → Hp → Prop} (hk : 1 ≤ s.toks) (I : Inv X pins σ H s)
    (h : ta σ H fun x H1 => tb σ H1 fun y H2 => R x y H2) {Q : Value → Shared → Prop} {f : Value → Value → Sem Value}
    (hf : ∀ v u s2 x y H2, Inv X pins σ H2 s2 → RelV x v → RelV y u → R x y H2 → wpAny (model X.prog X.w) X.A (f v u) Q X.xe s2) :
    wpAny (model X.prog X.w) X.A (eval a X.env) (fun v s₁ => wpAny (model X.prog X.w) X.A (eval b X.env) (fun u s₂ => wpAny (model X.prog X.w) X.A (f v u) Q X.xe s₂) X.xe s₁) X.xe s := by
  refine thnK hk (ha.run pins s σ H _ hk I h) fun v s1 k1 ⟨x, H1, I1, r1, q1⟩ => ?_
  refine thn (hb.run pins s1 σ H1 _ k1 I1 q1) fun u s2 ⟨y, H2, I2, r2, q2⟩ => ?_
  exact hf v u s2 x y H2 I2 r1 r2 q2
theorem et_op {op : Operator} {r : R2} (ho : OpR X (binaryOp op) r) (ha : ET X a ta) (hb : ET X b tb) : ET X (.BinOp a op b pos) (tOp r ta tb) :=
  ⟨fun pins s σ H Q hk I h => wpAny_BinOp (binK ha hb hk I h fun v u s2 x y H2 I2 rx ry q => ho pins s2 σ H2 x y v u Q I2 rx ry q)⟩
theorem et_ix {r : R2} (hr : IxR X r) (ha : ET X a ta) (hb : ET X b tb) (hs : PlainIx b) : ET X (.Subscript a b pos) (tOp r ta tb) :=
  ⟨fun pins s σ H Q hk I h => Subscript_ (binK ha hb hk I h fun v u s2 x y H2 I2 rx ry q => hr a b pins s2 σ H2 x y v u Q I2 rx ry q (hs _ _))⟩
theorem et_cmpR {op : CmpOp} {r : R2} (ho : OpR X (compareOp op) r) (ha : ET X a ta) (hb : ET X b tb) (hm : behindInMarks op b = false) : ET X (.Compare a [op] [b] pos) (tOp r ta tb) :=
  ⟨fun pins s σ H Q hk I h => wpAny_Compare1 (binK ha hb hk I h fun v u s2 x y H2 I2 rx ry q => ho pins s2 σ H2 x y v u Q I2 rx ry q) hm⟩
theorem tt_cmpR {op : CmpOp} {r : R2} (ho : OpR X (compareOp op) r) (ha : ET X a ta) (hb : ET X b tb) (hm : behindInMarks op b = false) : TT' X (.Compare a [op] [b] pos) (tTest (tOp r ta tb)) := by
  refine ⟨fun pins s σ H Q hk I h => ?_⟩
  refine wpAny_isTrue_Compare1 (thnK hk (ha.run pins s σ H _ hk I h) fun v s1 k1 ⟨x, H1, I1, r1, q1⟩ => thn (hb.run pins s1 σ H1 _ k1 I1 q1) fun u s2 ⟨y, H2, I2, r2, q2⟩ =>
    thn (ho pins s2 σ H2 x y v u _ I2 r1 r2 q2) fun c s3 ⟨z, H3, I3, r3, k, e, q3⟩ => ?_) hm
  subst e
  cases r3
  exact wpAny_truthy_bool ⟨H3, I3, q3⟩
theorem tt_val (h : ET X e te) (he : ∀ whole, isTrue e X.env whole = (do let v ← whole; standAt e.pos; holding [v] (truthy v)) := by intro _; rfl) : TT' X e (tB te) := by
  refine ⟨fun pins s σ H Q hk I hw => ?_⟩
  refine isTrue_plain (thn (h.run pins s σ H _ hk I hw) fun v s1 ⟨x, H1, I1, r1, q1⟩ => ?_) (he _)
  obtain ⟨k, rfl, q⟩ := q1
  cases r1
  exact wpAny_truthy_bool ⟨H1, I1, q⟩
theorem tt_not (ha : TT' X a uA) : TT' X (.UnaryOp .Not a pos) (tNot uA) :=
  ⟨fun pins s σ H Q hk I h => isTrue_not (ha.run pins s σ H (fun c H1 => Q (!c) H1) hk I h)⟩
theorem wt_and1 (ha : TT' X a uA) : WT X (.BoolOp .And [a] pos) uA := by
  refine ⟨fun wh pins s σ H Q hk I h => ?_⟩
  refine isTrue_and (thn (ha.run pins s σ H Q hk I h) fun c s1 e => ?_)
  cases c with
  | true => exact isTrue_and_nil e
  | false => exact e
theorem wt_or1 (ha : TT' X a uA) : WT X (.BoolOp .Or [a] pos) uA := by
  refine ⟨fun wh pins s σ H Q hk I h => ?_⟩
  refine isTrue_or (thn (ha.run pins s σ H Q hk I h) fun c s1 e => ?_)
  cases c with
  | false => exact isTrue_or_nil e
  | true => exact e
theorem wt_and (ha : TT' X a uA) (hb : WT X (.BoolOp .And (b :: rest') pos) uB) : WT X (.BoolOp .And (a :: b :: rest') pos) (tAnd uA uB) := by
  refine ⟨fun wh pins s σ H Q hk I h => ?_⟩
  refine isTrue_and (thnK hk (ha.run pins s σ H _ hk I h) fun c s1 k1 ⟨H1, I1, q1⟩ => ?_)
  cases c with
  | true => exact hb.run wh pins s1 σ H1 Q k1 I1 q1
  | false => exact ⟨H1, I1, q1⟩
theorem wt_or (ha : TT' X a uA) (hb : WT X (.BoolOp .Or (b :: rest') pos) uB) : WT X (.BoolOp .Or (a :: b :: rest') pos) (tOr uA uB) := by
  refine ⟨fun wh pins s σ H Q hk I h => ?_⟩
  refine isTrue_or (thnK hk (ha.run pins s σ H _ hk I h) fun c s1 k1 ⟨H1, I1, q1⟩ => ?_)
  cases c with
  | true => exact ⟨H1, I1, q1⟩
  | false => exact hb.run wh pins s1 σ H1 Q k1 I1 q1
theorem et_one {op} (h : ET X a ta) : ET X (.BoolOp op [a] pos) ta := ⟨fun pins s σ H Q hk I hw => BoolOp_one (h.run pins s σ H Q hk I hw)⟩
theorem et_and (ha : ET X a ta) (hb : ET X (.BoolOp .And (b :: rest') pos) tb) : ET X (.BoolOp .And (a :: b :: rest') pos) (tAndV ta tb) := by
  refine ⟨fun pins s σ H Q hk I h => ?_⟩
  refine BoolOp_and (thnK hk (ha.run pins s σ H _ hk I h) fun v s1 k1 ⟨x, H1, I1, r1, q1⟩ => ?_)
  obtain ⟨c, rfl, q1⟩ := q1
  cases r1
  refine wpAny_truthy_bool ?_
  cases c with
  | true => exact hb.run pins s1 σ H1 Q k1 I1 q1
  | false => exact ⟨.bl false, H1, I1, rfl, q1⟩
theorem et_or (ha : ET X a ta) (hb : ET X (.BoolOp .Or (b :: rest') pos) tb) : ET X (.BoolOp .Or (a :: b :: rest') pos) (tOrV ta tb) := by
  refine ⟨fun pins s σ H Q hk I h => ?_⟩
  refine BoolOp_or (thnK hk (ha.run pins s σ H _ hk I h) fun v s1 k1 ⟨x, H1, I1, r1, q1⟩ => ?_)
  obtain ⟨c, rfl, q1⟩ := q1
  cases r1
  refine wpAny_truthy_bool ?_
  cases c with
  | false => exact hb.run pins s1 σ H1 Q k1 I1 q1
  | true => exact ⟨.bl true, H1, I1, rfl, q1⟩
theorem et_not (ha : ET X a ta) : ET X (.UnaryOp .Not a pos) (tNotV ta) := by
  refine ⟨fun pins s σ H Q hk I h => ?_⟩
  refine UnaryOp_ (thn (ha.run pins s σ H _ hk I h) fun v s1 ⟨x, H1, I1, r1, q1⟩ => ?_)
  obtain ⟨c, rfl, q1⟩ := q1
  cases r1
  exact not_of (wpAny_truthy_bool ⟨.bl (!c), H1, I1, rfl, q1⟩)
theorem et_ifExp (hc : TT' X c uC) (ha : ET X a ta) (hb : ET X b tb) : ET X (.IfExp c a b pos) (tIf uC ta tb) := by
  refine ⟨fun pins s σ H Q hk I h => ?_⟩
  refine wpAny_IfExp (thnK hk (hc.run pins s σ H _ hk I h) fun d s1 k1 ⟨H1, I1, q1⟩ => ?_)
  cases d with
  | true => exact ha.run pins s1 σ H1 Q k1 I1 q1
  | false => exact hb.run pins s1 σ H1 Q k1 I1 q1
theorem et_tup {x1} (h : AT X es tx) : ET X (.Tuple es x1 pos) (tTup tx) := by
  refine ⟨fun pins s σ H Q hk I hq => ?_⟩
  refine wpAny_Tuple_spliced (thn (h.run pos pins s σ H _ hk I hq) fun us s1 ⟨xs, H1, I1, r, z, q⟩ => ⟨by rw [← r.length]; exact z, ?_⟩)
  have hf : H1 s1.heap.objs.size = none := I1.hok.fresh (Nat.le_refl _)
  refine ⟨.ref s1.heap.objs.size, upd H1 s1.heap.objs.size (.tup xs), I1.laid (t' := s1.toks) (fun b u e => Heap.get?_push_of_some _ e) (Nat.le_refl _) ?_, rfl, q _ hf⟩
  exact ⟨z, us, r, ⟨_, Heap.get?_push_size _ rfl, rfl, _, rfl⟩⟩
theorem et_lst (h : AT X es tx) : ET X (.List es pos) (tLst tx) := by
  refine ⟨fun pins s σ H Q hk I hq => ?_⟩
  refine wpAny_List_spliced (thn (h.run pos pins s σ H _ hk I hq) fun us s1 ⟨xs, H1, I1, r, z, q⟩ => ⟨by rw [← r.length]; exact z, ?_⟩)
  have hf : H1 s1.heap.objs.size = none := I1.hok.fresh (Nat.le_refl _)
  refine ⟨.ref s1.heap.objs.size, upd H1 s1.heap.objs.size (.lst xs), I1.laid (t' := s1.toks) (fun b u e => Heap.get?_push_of_some _ e) (Nat.le_refl _) ?_, rfl, q _ hf⟩
  exact ⟨z, us, 0, r, Heap.get?_push_size _ rfl⟩
/-- a method of a built-in type -/
theorem et_bm {T id : String} {name : Str} {apos cpos : Pos} {r : V → List V → Hp → VK → Prop} (pa : PlainAttrs T) (slot : Slot T name id) (hty : typeOf (.builtin id) = pure (.type "method_descriptor")) (hm : MtR X id r) (ho : ET X o to) (ha : AT X (e :: es) tx)
    (hbase : attributeBase o name X.env (eval o X.env) = eval o X.env := by rfl)
    (hfew : ((backTo cpos (starEach (e :: es) X.env)).all (fun x => !x.1) && (backToKw cpos (keywordEach [] X.env)).all (fun x => x.1.isSome)
      && decide ((e :: es).length + ([] : List Keyword).length + (if ([] : List Keyword).isEmpty then 0 else 1) < 30)) = true := by rfl)
    (hline : (apos.endLine == cpos.line) = true := by rfl) (hs : starEach (e :: es) X.env = (false, eval e X.env) :: starEach es X.env := by rfl) (hplain : (backTo cpos (starEach es X.env)).any (·.1) = false := by rfl) :
    ET X (.Call (.Attribute o name apos) (e :: es) [] cpos) (tBM X.K T r to tx) := by
  refine ⟨fun pins s σ H Q hk I h => ?_⟩
  refine wpAny_Call_method_late hbase hfew hline rfl (thnK hk (ho.run pins s σ H _ hk I h) fun v s1 k1 ⟨x, H1, I1, r1, ty, q1⟩ => ?_)
  obtain ⟨h1, h2⟩ := tyV_is I1 r1 ty
  refine ⟨T, id, pa, slot, hty, h1, h2, ?_⟩
  have hA := ha.run cpos pins s1 σ H1 _ k1 I1 q1
  rw [hs] at hA ⊢
  refine Calls.callWith_builtin (by show (false || (backTo cpos (starEach es X.env)).any (·.1)) = false; rw [hplain] <;> rfl) (Calls.evalArgs_plain ?_)
  exact thn hA fun us s2 ⟨vs, H2, I2, r2, q2⟩ => hm pins s2 σ H2 x vs v us Q I2 r1 r2 q2
/-- statements -/
theorem st_expr (he : ET X e te) (hs : swapsWith e none pos.line X.env = pure false := by rfl) : ST X (.Expr e pos) (tDrop te) :=
  ⟨fun pins s σ H D hk I h => wpAny_Expr_any (thn (he.run pins s σ H _ hk I h) fun v s1 ⟨x, H1, I1, r1, q1⟩ => ⟨σ, H1, I1, q1⟩) I.quiet hs⟩
theorem st_ret (he : ET X e te) : ST X (.Return (some e) pos) (tRet te) :=
  ⟨fun pins s σ H D hk I h => wpAny_Return_some (thn (he.run pins s σ H _ hk I h) fun v s1 ⟨x, H1, I1, r1, q1⟩ => ⟨x, σ, H1, I1, r1, q1⟩)⟩
theorem st_if (hc : TT' X c uC) (ha : BT X bd t) (hb : BT X bd' u) : ST X (.If c bd bd' pos) (tIfS uC t u) := by
  refine ⟨fun pins s σ H D hk I h => ?_⟩
  refine wpAny_If (thnK hk (hc.run pins s σ H _ hk I h) fun d s1 k1 ⟨H1, I1, q1⟩ => ?_)
  cases d with
  | true => exact ha.run pins s1 σ H1 D k1 I1 q1
  | false => exact hb.run pins s1 σ H1 D k1 I1 q1
theorem st_asg {tg : Expr} {g : TG} (he : ET X e te) (hg : PG X tg g) (hs : swapsWithSole [tg] e pos.line X.env = pure false := by rfl) (hw : swappedStores [tg] e X.env = pure none := by rfl)
    (h1 : (assignEach [tg] X.env).map (·.2) = [assign tg X.env] := by rfl) : ST X (.Assign [tg] e pos) (tAsg te g) := by
  refine ⟨fun pins s σ H D hk I h => ?_⟩
  refine wpAny_Assign_stores (thn (he.run pins s σ H _ hk I h) fun v s1 ⟨x, H1, I1, r1, q1⟩ => ?_) hs hw
  rw [h1]
  exact thn (hg.run pins s1 σ H1 x v _ I1 r1 q1) fun _ s2 q => q
theorem st_set {i : Nat} {x : Str} {pos' : Pos} (hN : X.N.Nodup) (hi : X.N[i]? = some x) (hx : Loc X.env.scope x) (he : ET X e te) (hs : swapsWith e (some (.Name x pos')) pos.line X.env = pure false := by rfl) (hf : X.fn x = true ∨ X.env.scope.names.lookup x = some .local := by first | exact .inl rfl | exact .inr rfl | assumption) :
    ST X (.Assign [.Name x pos'] e pos) (tAsg te (gName i)) := by
  refine ⟨fun pins s σ H D hk I h => ?_⟩
  refine wpAny_Assign_Name (thn (he.run pins s σ H _ hk I h) fun v s1 ⟨y, H1, I1, r1, q1⟩ => ?_) hs
  exact store_ok I1 hN hi hx r1 (fun s2 I2 => ⟨_, H1, I2, q1⟩) hf
theorem bt_nil : BT X [] tNext := .of pss_nil
theorem bt_one (h1 : ST X st t) : BT X [st] t := by
  refine ⟨fun pins s σ H D hk I h => ?_⟩
  refine wpAny_execs_cons (thn (h1.run pins s σ H D hk I h) fun f s1 q => ?_)
  cases f with
  | next => exact wpAny_execs_nil q
  | ret v => exact q
  | brk => exact q
  | cont => exact q
theorem bt_cons (h1 : ST X st t) (h2 : BT X rest u) : BT X (st :: rest) (tSeq t u) := by
  refine ⟨fun pins s σ H D hk I h => ?_⟩
  refine wpAny_execs_cons (thnK hk (h1.run pins s σ H { D with nx := u D } hk I h) fun f s1 k1 q => ?_)
  cases f with
  | next =>
    obtain ⟨σ', H', I', q⟩ := q
    exact h2.run pins s1 σ' H' D k1 I' q
  | ret v => exact q
  | brk => exact q
  | cont => exact q
theorem bt_cut (h1 : ST X st t) (h2 : BT X rest u) : BT X (st :: rest) (tCut t u) := by
  refine ⟨fun pins s σ H D hk I h => ?_⟩
  obtain ⟨Mid, hm, hu⟩ := h
  refine wpAny_execs_cons (thnK hk (h1.run pins s σ H { D with nx := Mid } hk I hm) fun f s1 k1 q => ?_)
  cases f with
  | next =>
    obtain ⟨σ', H', I', q⟩ := q
    exact h2.run pins s1 σ' H' D k1 I' (hu σ' H' q)
  | ret v => exact q
  | brk => exact q
  | cont => exact q
/-- behind a statement that gives a token out -/
theorem pssk_cons (h1 : SK X st t) (h2 : BT X rest u) : PSs X (st :: rest) (tSeq t u) := by
  refine ⟨fun pins s σ H D I h => ?_⟩
  refine wpAny_execs_cons (thn (h1.run pins s σ H { D with nx := u D } I h) fun f s1 ⟨k1, q⟩ => ?_)
  cases f with
  | next =>
    obtain ⟨σ', H', I', q⟩ := q
    exact h2.run pins s1 σ' H' D k1 I' q
  | ret v => exact q
  | brk => exact q
  | cont => exact q
theorem st_for {iter tg : Expr} {wi : TI} {g : TG} {tb : TS} (hp : PassesOwn (model X.prog X.w) X.A X.env X.xe) (hc : X.calm = true) (hi : PI X tg iter wi) (hg : PG X tg g) (hb : BT X bd tb)
    (hs : ∀ x, foldedSetIterable iter X.env x = pure x := by intro _; rfl) : ST X (.For tg iter bd [] pos) (tFor wi g tb) := by
  refine ⟨fun pins s σ H D hk I h => ?_⟩
  refine wpAny_For (thnK hk (hi.run pins s σ H _ I h) fun v s1 k1 h1 => thnK k1 h1 fun itv s2 k2 h2 => ?_) hs
  obtain ⟨it, fp, tn, J, H2, e, I2, T, st2, f2, W, ⟨m0, w0⟩, turn⟩ := h2
  subst e
  have stat : ∀ {H' : Hp}, (∀ b ∈ fp, H' b = none) → ∀ b ∈ fp, FpOk X pins H' b := fun hn b hb => ⟨hn b hb, (f2 b hb).2⟩
  refine codeAny_forLoop_any (fun n s' => 1 ≤ s'.toks ∧ ∃ i σ' H', Inv X pins σ' H' s' ∧ tn i s'.heap ∧ (∀ b ∈ fp, H' b = none) ∧ W i n σ' H') ?_ m0 ⟨k2, 0, σ, H2, I2, st2, fun b hb => (f2 b hb).1, w0⟩
  rintro n s3 ⟨k3, i, σ3, H3, I3, st3, fr3, w3⟩
  rcases turn i n σ3 H3 w3 with ⟨stop, qn⟩ | ⟨go, N, hN, step⟩
  · refine wpAny_passesOwn hp (thn (T.done X rfl rfl rfl hc i pins s3 σ3 H3 X.xe I3 (stat fr3) st3 stop) fun r s4 ⟨hr, I4⟩ => ?_)
    subst hr
    exact wpAny_execs_nil ⟨σ3, H3, I4, qn⟩
  · refine wpAny_passesOwn hp (thnK k3 (T.item X rfl rfl rfl hc i pins s3 σ3 H3 X.xe I3 (stat fr3) st3 go) fun r s4 k4 ⟨u, hr, h4⟩ => ?_)
    subst hr
    refine wpAny_passesOwn hp (thnK k4 h4 fun _ s5 k5 ⟨x, H5, I5, r5, y5, st5, fr5⟩ => ?_)
    have I5' := I5.pinned (stat fr5) (T.obj _ _ st5)
    refine wpAny_passesOwn hp (thnK k5 (hg.run _ s5 σ3 H5 x u _ I5' r5 (step x H5 y5)) fun _ s6 k6 ⟨σ6, H6, I6, q6⟩ => ?_)
    refine wpAny_passesOwn hp (thnK k6 (hb.run _ s6 σ6 H6 _ k6 I6 q6) fun f s7 k7 q7 => ?_)
    have again : ∀ {σ7 : L2.St} {H7 : Hp}, Inv X (pins ++ pinsAt fp s5.heap) σ7 H7 s7 → N σ7 H7 → ∃ m, m < n ∧ 1 ≤ s7.toks ∧ ∃ i σ' H', Inv X pins σ' H' s7 ∧ tn i s7.heap ∧ (∀ b ∈ fp, H' b = none) ∧ W i m σ' H' := fun {σ7 H7} I7 n7 => by
      obtain ⟨m', hm, w7⟩ := hN σ7 H7 n7
      refine ⟨m', hm, k7, i + 1, σ7, H7, I7.unpinned, T.keep _ _ _ st5 fun b hb o e => (I7.pin (b, o) (List.mem_append_right _ (List.mem_append_right _ (mem_pinsAt hb e)))).1, fun b hb => ?_, w7⟩
      obtain ⟨o, e, d⟩ := T.obj _ _ st5 b hb
      exact (I7.pin (b, o) (List.mem_append_right _ (List.mem_append_right _ (mem_pinsAt hb e)))).2.1
    cases f with
    | next => obtain ⟨σ7, H7, I7, n7⟩ := q7; exact again I7 n7
    | cont => obtain ⟨σ7, H7, I7, n7⟩ := q7; exact again I7 n7
    | brk => obtain ⟨σ7, H7, I7, q7⟩ := q7; exact ⟨σ7, H7, I7.unpinned, q7⟩
    | ret v => obtain ⟨x7, σ7, H7, I7, r7, q7⟩ := q7; exact ⟨x7, σ7, H7, I7.unpinned, r7, q7⟩
theorem st_while {tb : TS} (hp : PassesOwn (model X.prog X.w) X.A X.env X.xe) (hc : TT' X c uC) (hb : BT X bd tb) : ST X (.While c bd [] pos) (tWhile uC tb) := by
  refine ⟨fun pins s σ H D hk I h => ?_⟩
  obtain ⟨W, ⟨m0, w0⟩, turn⟩ := h
  refine wpAny_While (codeAny_whileLoop (fun n s' => 1 ≤ s'.toks ∧ ∃ σ' H', Inv X pins σ' H' s' ∧ W n σ' H') ?_ m0 ⟨hk, σ, H, I, w0⟩)
  rintro n s1 ⟨k1, σ1, H1, I1, w1⟩
  refine wpAny_passesOwn hp (thnK k1 (hc.run pins s1 σ1 H1 _ k1 I1 (turn n σ1 H1 w1)) fun b s2 k2 ⟨H2, I2, q2⟩ => ?_)
  cases b with
  | true =>
    obtain ⟨N, hN, q2⟩ := q2
    rw [if_pos rfl]
    refine wpAny_passesOwn hp (thnK k2 (hb.run pins s2 σ1 H2 _ k2 I2 q2) fun f s3 k3 q3 => ?_)
    cases f with
    | next =>
      obtain ⟨σ3, H3, I3, n3⟩ := q3
      obtain ⟨m', hm, w3⟩ := hN σ3 H3 n3
      exact ⟨m', hm, k3, σ3, H3, I3, w3⟩
    | cont =>
      obtain ⟨σ3, H3, I3, n3⟩ := q3
      obtain ⟨m', hm, w3⟩ := hN σ3 H3 n3
      exact ⟨m', hm, k3, σ3, H3, I3, w3⟩
    | brk => exact q3
    | ret v => exact q3
  | false =>
    rw [if_neg Bool.false_ne_true]
    exact wpAny_execs_nil ⟨σ1, H2, I2, q2⟩
/-- calls of own defs -/
theorem run_fnT {CX : CXT} {k : Nat} {f : Addr} {fd : FuncData} {ps : List Str} {ds : List Value} {dvs : List V} {sp : Sp} {E : XK} {pins : List (Addr × Obj)} {σ : L2.St} {H : Hp} {s : Shared} {Q : VK} {us : List Value} {vs : List V} (F : FnT X.prog X.w X.K X.mg X.base CX k f fd ps sp) (hr : Room k X.A) (hb : Binds X.K fd ps ds) (hd : Vals dvs ds) (hx : Passes CX X E)
    (hk : 1 ≤ s.toks) (I : Inv X pins σ H s) (r : Vals vs us) (h : sp (vs ++ dvs) H Q E) : wpAny (model X.prog X.w) X.A (call (.ref f) us) (EP X pins σ Q) X.xe s := by
  have r2 : Vals (vs ++ dvs) (us ++ ds) := r.append hd
  have hl : (us ++ ds).length = ps.length := by rw [← r2.length]; exact F.len _ _ _ _ h
  refine wpAny_call (codeAny_mono (F.run X.A X.stack s H ⟨us, []⟩ (us ++ ds) (vs ++ dvs) Q E hk hr I.env0 (hb s us I.kIn hl) r2 h) fun r s' hq => ?_)
  cases r with
  | error e => exact hx pins σ H s e s' I hq
  | ok fl =>
    cases fl with
    | ret u => exact I.after hq
    | next => exact False.elim hq
    | brk => exact False.elim hq
    | cont => exact False.elim hq
theorem run_fnK {CX : CXT} {k : Nat} {f : Addr} {fd : FuncData} {ps : List Str} {ds : List Value} {dvs : List V} {sp : Sp} {E : XK} {pins : List (Addr × Obj)} {σ : L2.St} {H : Hp} {s : Shared} {Q : VK} {us : List Value} {vs : List V} (F : FnK X.prog X.w X.K X.mg X.base CX k f fd ps sp) (hr : Room k X.A) (hb : Binds X.K fd ps ds) (hd : Vals dvs ds) (hx : Passes CX X E)
    (I : Inv X pins σ H s) (r : Vals vs us) (h : sp (vs ++ dvs) H Q E) : wpAny (model X.prog X.w) X.A (call (.ref f) us) (fun u s' => 1 ≤ s'.toks ∧ EP X pins σ Q u s') X.xe s := by
  have r2 : Vals (vs ++ dvs) (us ++ ds) := r.append hd
  have hl : (us ++ ds).length = ps.length := by rw [← r2.length]; exact F.len _ _ _ _ h
  refine wpAny_call (codeAny_mono (F.run X.A X.stack s H ⟨us, []⟩ (us ++ ds) (vs ++ dvs) Q E hr I.env0 (hb s us I.kIn hl) r2 h) fun r s' hq => ?_)
  cases r with
  | error e => exact hx pins σ H s e s' I hq.2
  | ok fl =>
    cases fl with
    | ret u => exact ⟨hq.1.elim (fun ⟨_, z⟩ => nomatch z) _root_.id, I.after hq.2⟩
    | next => exact False.elim hq.2
    | brk => exact False.elim hq.2
    | cont => exact False.elim hq.2
variable {x : Str} {k : Nat} {ps : List Str} {dvs : List V} {sp : Sp} {p : Pos}
theorem et_own (O : OwnT X.prog X.w X.K X.mg X.base x k ps dvs sp) (hr : Room k X.A) (hg : Gl X x) (ha : AT X (e :: es) tx) (hdb : (x == ("__debug__" : Str)) = false := by decide) (he : starEach (e :: es) X.env = (false, eval e X.env) :: starEach es X.env := by rfl) (hpl : (backTo pos (starEach es X.env)).any (·.1) = false := by rfl) :
    ET X (.Call (.Name x p) (e :: es) [] pos) (tCall sp dvs E0 tx) := by
  obtain ⟨f, fd, ds, F, hm, hkp, hb, hd⟩ := O.ex
  refine ⟨fun pins s σ H Q hk I h => ?_⟩
  refine wpAny_Call_Name_kw (ld_glob I hg hm ?_ hdb)
  refine PySem.W.callWith_K (h₀ := X.base) I.ok.mod.kin hkp (thnK hk (ha.run pos pins s σ H _ hk I h) fun us s1 k1 ⟨vs, H1, I1, r, q⟩ => ⟨I1.kIn, ?_⟩) he hpl
  exact run_fnT F hr hb hd pass0 k1 I1 r q
/-- a call of a def without tokens' care, its arguments with it -/
theorem et_ownP (O : Own X.prog X.w X.K X.mg X.base x k ps dvs sp) (hr : Room k X.A) (hg : Gl X x) (ha : AT X (e :: es) tx) (hdb : (x == ("__debug__" : Str)) = false := by decide) (he : starEach (e :: es) X.env = (false, eval e X.env) :: starEach es X.env := by rfl) (hpl : (backTo pos (starEach es X.env)).any (·.1) = false := by rfl) :
    ET X (.Call (.Name x p) (e :: es) [] pos) (tCall sp dvs E0 tx) := by
  obtain ⟨f, fd, ds, F, hm, hkp, hb, hd⟩ := O.ex
  refine ⟨fun pins s σ H Q hk I h => ?_⟩
  refine wpAny_Call_Name_kw (ld_glob I hg hm ?_ hdb)
  refine PySem.W.callWith_K (h₀ := X.base) I.ok.mod.kin hkp (thnK hk (ha.run pos pins s σ H _ hk I h) fun us s1 k1 ⟨vs, H1, I1, r, q⟩ => ⟨I1.kIn, ?_⟩) he hpl
  exact run_fn F hr hb hd pass0 I1 r q
theorem ek_own (O : OwnK X.prog X.w X.K X.mg X.base x k ps dvs sp) (hr : Room k X.A) (hg : Gl X x) (ha : PA X (e :: es) tx) (hdb : (x == ("__debug__" : Str)) = false := by decide) (he : starEach (e :: es) X.env = (false, eval e X.env) :: starEach es X.env := by rfl) (hpl : (backTo pos (starEach es X.env)).any (·.1) = false := by rfl) :
    EK X (.Call (.Name x p) (e :: es) [] pos) (tCall sp dvs E0 tx) := by
  obtain ⟨f, fd, ds, F, hm, hkp, hb, hd⟩ := O.ex
  refine ⟨fun pins s σ H Q I h => ?_⟩
  refine wpAny_Call_Name_kw (ld_glob I hg hm ?_ hdb)
  refine PySem.W.callWith_K (h₀ := X.base) I.ok.mod.kin hkp (thn (ha.run pos pins s σ H _ I h) fun us s1 ⟨vs, H1, I1, r, q⟩ => ⟨I1.kIn, ?_⟩) he hpl
  exact run_fnK F hr hb hd pass0 I1 r q
theorem sk_set {i : Nat} {y : Str} {pos' : Pos} (hN : X.N.Nodup) (hi : X.N[i]? = some y) (hx : Loc X.env.scope y) (he : EK X e te) (hs : swapsWith e (some (.Name y pos')) pos.line X.env = pure false := by rfl) (hf : X.fn y = true ∨ X.env.scope.names.lookup y = some .local := by first | exact .inl rfl | exact .inr rfl | assumption) :
    SK X (.Assign [.Name y pos'] e pos) (tAsg te (gName i)) := by
  refine ⟨fun pins s σ H D I h => ?_⟩
  refine wpAny_Assign_Name (thn (he.run pins s σ H _ I h) fun v s1 ⟨k1, z, H1, I1, r1, q1⟩ => ?_) hs
  exact thnK k1 (store_ok (Q := fun _ s2 => SP X pins D .next s2) I1 hN hi hx r1 (fun s2 I2 => ⟨_, H1, I2, q1⟩) hf) fun _ s2 k2 q => ⟨k2, q⟩
/-- what gives a token out: a written number among the items of a list -/
theorem ek_int {n : Int} {j : Nat} : EK X (.Constant (.int n) j pos) (tC (.int n)) :=
  ⟨fun pins s σ H Q I h => wpAny_Constant_int ⟨Nat.le_add_left 1 _, .int n, H, I.tok _, ⟨_, rfl⟩, h⟩⟩
theorem ak_here (ha : EK X e te) (hr : PA X es tx) (hs : starEach (e :: es) X.env = (false, eval e X.env) :: starEach es X.env := by rfl) : AK X (e :: es) (tCons te tx) := by
  refine ⟨fun pos pins s σ H Q I h => ?_⟩
  rw [hs]
  show wpAny _ _ (spliced ((false, eval e X.env) :: backTo pos (starEach es X.env))) _ _ s
  refine Calls.spliced_cons (thn (ha.run pins s σ H _ I h) fun v s1 ⟨k1, x, H1, I1, r1, q1⟩ => ?_)
  exact thnK k1 (hr.run pos pins s1 σ H1 _ I1 q1) fun us s2 k2 ⟨xs, H2, I2, r2, q2⟩ => ⟨k2, x :: xs, H2, I2, .cons r1 r2, q2⟩
theorem ak_there (ha : PE X e te) (hr : AK X es tx) (hs : starEach (e :: es) X.env = (false, eval e X.env) :: starEach es X.env := by rfl) : AK X (e :: es) (tCons te tx) := by
  refine ⟨fun pos pins s σ H Q I h => ?_⟩
  rw [hs]
  show wpAny _ _ (spliced ((false, eval e X.env) :: backTo pos (starEach es X.env))) _ _ s
  refine Calls.spliced_cons (thn (ha.run pins s σ H _ I h) fun v s1 ⟨x, H1, I1, r1, q1⟩ => ?_)
  exact thn (hr.run pos pins s1 σ H1 _ I1 q1) fun us s2 ⟨k2, xs, H2, I2, r2, q2⟩ => ⟨k2, x :: xs, H2, I2, .cons r1 r2, q2⟩
theorem ek_lst (h : AK X es tx) : EK X (.List es pos) (tLst tx) := by
  refine ⟨fun pins s σ H Q I hq => ?_⟩
  refine wpAny_List_spliced (thn (h.run pos pins s σ H _ I hq) fun us s1 ⟨k1, xs, H1, I1, r, z, q⟩ => ⟨by rw [← r.length]; exact z, ?_⟩)
  have hf : H1 s1.heap.objs.size = none := I1.hok.fresh (Nat.le_refl _)
  refine ⟨k1, .ref s1.heap.objs.size, upd H1 s1.heap.objs.size (.lst xs), I1.laid (t' := s1.toks) (fun b u e => Heap.get?_push_of_some _ e) (Nat.le_refl _) ?_, rfl, q _ hf⟩
  exact ⟨z, us, 0, r, Heap.get?_push_size _ rfl⟩
theorem sk_ret (he : EK X e te) : SK X (.Return (some e) pos) (tRet te) :=
  ⟨fun pins s σ H D I h => wpAny_Return_some (thn (he.run pins s σ H _ I h) fun v s1 ⟨k1, x, H1, I1, r1, q1⟩ => ⟨k1, x, σ, H1, I1, r1, q1⟩)⟩
theorem bk_one (h1 : SK X st t) : BK X [st] t := by
  refine ⟨fun pins s σ H D I h => ?_⟩
  refine wpAny_execs_cons (thn (h1.run pins s σ H D I h) fun f s1 ⟨k1, q⟩ => ?_)
  cases f with
  | next => exact wpAny_execs_nil ⟨k1, q⟩
  | ret v => exact ⟨k1, q⟩
  | brk => exact ⟨k1, q⟩
  | cont => exact ⟨k1, q⟩
end

/-! ### defs by their bodies: plain, from states with a token, giving one out -/
theorem BT.nox {X : Cx} {st : List Stmt} {t : TS} (h : BT X.nox st t) : BT X st t := ⟨fun pins s σ H D hk I hw =>
  wpAny_mono (h.run pins s σ H D hk (I.wish _) hw) (fun _ _ q => q.unwish) fun _ _ z => False.elim z⟩
theorem BK.nox {X : Cx} {st : List Stmt} {t : TS} (h : BK X.nox st t) : BK X st t := ⟨fun pins s σ H D I hw =>
  wpAny_mono (h.run pins s σ H D (I.wish _) hw) (fun _ _ q => ⟨q.1, q.2.unwish⟩) fun _ _ z => False.elim z⟩
abbrev Fn (K : PySem.W.Frag) (x : Str) (st : Stmt) (dvs : List V) (f : Addr) (fd : FuncData) : Prop := FunD K x x (defArgs st) (defBody st) (defScope st) dvs [] f fd
section
variable {P : Program} {w : World} {K : PySem.W.Frag} {mg : Str → Option Value} {base : Heap} {x : Str} {st : Stmt} {dvs : List V} {f : Addr} {fd : FuncData} {N ps : List Str} {k : Nat} {sp : Sp}
theorem Fn.mk' {oc dV kV doc pm cdv ct : Value} {od an : Option Addr} {osl : Array (Option Value)} (l : K.lookup f = some ⟨oc, od, .func (PySem.W.fnOf x x (defArgs st) (defBody st) (defScope st) dV kV doc pm an cdv ct), osl⟩)
    (c : PySem.W.codeIn K cdv x = true) (h : PySem.W.keepIn K (.ref f) = true) (d : DflV K dV dvs) : Fn K x st dvs f (PySem.W.fnOf x x (defArgs st) (defBody st) (defScope st) dV kV doc pm an cdv ct) :=
  ⟨⟨oc, od, dV, kV, doc, pm, an, cdv, ct, osl, rfl, l, c, d, .inl rfl⟩, h⟩
theorem Fn.okN (F : Fn K x st dvs f fd) (S : FnScope N ps (defScope st)) (len : ∀ vs H Q E, sp vs H Q E → vs.length = ps.length)
    (hbody : ∀ (cdv : Value) (A : Around) (outer : List Env) (s : Shared) (H : Hp) (vs : List V) (Q : VK) (E : XK), Room k (A.deeper (envOfC x (defScope st) s.heap.objs.size f cdv)) → sp vs H Q E →
      ∃ t, PSs (cxOf CX0 P w K mg base N x (defScope st) f cdv A outer s H E).nox (defBody st) t ∧ t { nx := fun _ H' => Q .non H', rt := Q } (start N vs) H) : FnOk P w K mg base CX0 (k + 1) f fd ps sp :=
  FunD.ok F S len fun cdv A outer s H vs Q E hr hsp => by
    obtain ⟨t, h, q⟩ := hbody cdv A outer s H vs Q E hr hsp
    exact ⟨t, h.nox, q⟩
theorem Fn.okT (F : Fn K x st dvs f fd) (S : FnScope N ps (defScope st)) (len : ∀ vs H Q E, sp vs H Q E → vs.length = ps.length)
    (hbody : ∀ (cdv : Value) (A : Around) (outer : List Env) (s : Shared) (H : Hp) (vs : List V) (Q : VK) (E : XK), Room k (A.deeper (envOfC x (defScope st) s.heap.objs.size f cdv)) → sp vs H Q E →
      ∃ t, BT (cxOf CX0 P w K mg base N x (defScope st) f cdv A outer s H E).nox (defBody st) t ∧ t { nx := fun _ H' => Q .non H', rt := Q } (start N vs) H) : FnT P w K mg base CX0 (k + 1) f fd ps sp := by
  obtain ⟨oc, od, dV, kV, doc, pm, an, cdv, ct, osl, rfl, lk, hcd, _, _⟩ := F.ex
  refine ⟨len, fun A outer s H args us vs Q E hk hr e0 hb r hsp => ?_⟩
  have hl := len _ _ _ _ hsp
  have KX : K.In s.heap := e0.mod.kin.keeps fun b o e => (e0.bs b o e).1
  have lim : s.heap.NoLimit := e0.mod.nolimit.keeps fun b o e => (e0.bs b o e).1
  have hkind : ∀ y ∈ ps.zip us, (defScope st).names.lookup y.1 = some .local ∨ ((defScope st).names.lookup y.1 = some .cell ∧ ((cellsFrom (s.heap.objs.size + 1) (defScope st).names []).lookup y.1).isSome = true) := fun ⟨n, v⟩ hy => by
    rcases S.par n (List.of_mem_zip hy).1 with q | q
    · exact .inl q
    · exact .inr ⟨q, PySem.W.cellsFrom_some _ _ _ (.inl q)⟩
  refine codeAny_call_function hr.depth (KX _ _ lk) rfl S.co S.gen rfl (PySem.W.codeRec_of KX hcd) (hb _ _ _ _ ?_)
  refine PySem.wpAny_with_toks hk ?_
  refine wpAny_newFunctionEnv_cells S.kind hkind fun env he s1 xx => ?_
  intro k1
  subst he
  refine ⟨lim.keeps xx.toInCall.keep, codeAny_func ?_⟩
  obtain ⟨t, ht, hq⟩ := hbody cdv A outer s H vs Q E (hr.deeper _) hsp
  have I : Inv (cxOf CX0 P w K mg base N x (defScope st) f cdv A outer s H E) [] (start N vs) H s1 := inv_start S hr.hd e0 hl r xx
  refine wpAny_mono (ht.nox.run [] s1 (start N vs) H _ k1 I hq) (fun fl s' hs => ?_) fun e s' hs => hs
  have fin : ∀ {σ' : L2.St} {H' : Hp} {v : V} {u : Value}, Inv (cxOf CX0 P w K mg base N x (defScope st) f cdv A outer s H E) [] σ' H' s' → RelV v u → Q v H' → CE outer P w H s Q u s' :=
    fun {σ' H' v u} J rv q => ⟨v, H', J.os, J.bare, J.base, J.hok, rv, q⟩
  cases fl with
  | ret u =>
    obtain ⟨v, σ', H', J, rv, q⟩ := hs
    exact fin J rv q
  | next =>
    obtain ⟨σ', H', J, q⟩ := hs
    exact fin (v := V.non) (u := Value.none) J rfl q
  | brk =>
    obtain ⟨_, _, _, q⟩ := hs
    exact False.elim q
  | cont =>
    obtain ⟨_, _, _, q⟩ := hs
    exact False.elim q
theorem Fn.okK (F : Fn K x st dvs f fd) (S : FnScope N ps (defScope st)) (len : ∀ vs H Q E, sp vs H Q E → vs.length = ps.length)
    (hbody : ∀ (cdv : Value) (A : Around) (outer : List Env) (s : Shared) (H : Hp) (vs : List V) (Q : VK) (E : XK), Room k (A.deeper (envOfC x (defScope st) s.heap.objs.size f cdv)) → sp vs H Q E →
      ∃ t, BK (cxOf CX0 P w K mg base N x (defScope st) f cdv A outer s H E).nox (defBody st) t ∧ t { nx := fun _ H' => Q .non H', rt := Q } (start N vs) H) : FnK P w K mg base CX0 (k + 1) f fd ps sp := by
  obtain ⟨oc, od, dV, kV, doc, pm, an, cdv, ct, osl, rfl, lk, hcd, _, _⟩ := F.ex
  refine ⟨len, fun A outer s H args us vs Q E hr e0 hb r hsp => ?_⟩
  have hl := len _ _ _ _ hsp
  have KX : K.In s.heap := e0.mod.kin.keeps fun b o e => (e0.bs b o e).1
  have lim : s.heap.NoLimit := e0.mod.nolimit.keeps fun b o e => (e0.bs b o e).1
  have hkind : ∀ y ∈ ps.zip us, (defScope st).names.lookup y.1 = some .local ∨ ((defScope st).names.lookup y.1 = some .cell ∧ ((cellsFrom (s.heap.objs.size + 1) (defScope st).names []).lookup y.1).isSome = true) := fun ⟨n, v⟩ hy => by
    rcases S.par n (List.of_mem_zip hy).1 with q | q
    · exact .inl q
    · exact .inr ⟨q, PySem.W.cellsFrom_some _ _ _ (.inl q)⟩
  refine codeAny_call_function hr.depth (KX _ _ lk) rfl S.co S.gen rfl (PySem.W.codeRec_of KX hcd) (hb _ _ _ _ ?_)
  refine wpAny_newFunctionEnv_cells S.kind hkind fun env he s1 xx => ?_
  subst he
  refine ⟨lim.keeps xx.toInCall.keep, codeAny_func ?_⟩
  obtain ⟨t, ht, hq⟩ := hbody cdv A outer s H vs Q E (hr.deeper _) hsp
  have I : Inv (cxOf CX0 P w K mg base N x (defScope st) f cdv A outer s H E) [] (start N vs) H s1 := inv_start S hr.hd e0 hl r xx
  refine wpAny_mono (ht.nox.run [] s1 (start N vs) H _ I hq) (fun fl s' hs => ?_) fun e s' hs => ?_
  · obtain ⟨kk, hs⟩ := hs
    have fin : ∀ {σ' : L2.St} {H' : Hp} {v : V} {u : Value}, Inv (cxOf CX0 P w K mg base N x (defScope st) f cdv A outer s H E) [] σ' H' s' → RelV v u → Q v H' → ((∃ e : Value, (Except.ok (Flow.ret u) : Result) = .error e) ∨ 1 ≤ s'.toks) ∧ CE outer P w H s Q u s' :=
      fun {σ' H' v u} J rv q => ⟨.inr kk, v, H', J.os, J.bare, J.base, J.hok, rv, q⟩
    cases fl with
    | ret u =>
      obtain ⟨v, σ', H', J, rv, q⟩ := hs
      exact fin J rv q
    | next =>
      obtain ⟨σ', H', J, q⟩ := hs
      have z := fin (v := V.non) (u := Value.none) J rfl q
      exact ⟨.inr kk, z.2⟩
    | brk =>
      obtain ⟨_, _, _, q⟩ := hs
      exact False.elim q
    | cont =>
      obtain ⟨_, _, _, q⟩ := hs
      exact False.elim q
  · exact wpAny_mono hs (fun _ _ z => ⟨.inl ⟨_, rfl⟩, z⟩) (fun _ _ z => ⟨.inl ⟨_, rfl⟩, z⟩)
end

/-! ### further rules: text.replace of written texts, get of a written dict, in a tuple of data -/
section
variable {X : Cx} {o e : Expr} {to te : TE}
def tRepl (y z : Str) (to : TE) : TE := fun σ H Q => to σ H fun x H1 => ∃ a : Str, x = .str a ∧ a.length + (a.length + 1) * z.length ≤ 16777216 ∧ Q (.str (Txt.replace a y z)) H1
theorem et_repl {y z : Str} {j0 j1 : Nat} {c0 c1 apos pos : Pos} (ho : ET X o to) (hyz : (y == z) = false) (hst : starEach [.Constant (.str y) j0 c0, .Constant (.str z) j1 c1] X.env = [(false, eval (.Constant (.str y) j0 c0) X.env), (false, eval (.Constant (.str z) j1 c1) X.env)] := by rfl)
    (hbase : attributeBase o "replace" X.env (eval o X.env) = eval o X.env := by rfl) (hline : (apos.endLine == pos.line) = true := by rfl) :
    ET X (.Call (.Attribute o "replace" apos) [.Constant (.str y) j0 c0, .Constant (.str z) j1 c1] [] pos) (tRepl y z to) := by
  refine ⟨fun pins s σ H Q hk I h => ?_⟩
  refine PySem.Call_method2 hbase hst hline (thnK hk (ho.run pins s σ H _ hk I h) fun v s1 k1 ⟨x, H1, I1, r1, a, ex, hb, q⟩ => ?_)
  subst ex
  obtain ⟨tx, rfl⟩ := r1
  refine ⟨"str", _, PySem.F.plainAttrs_str, PySem.F.slot_str_replace, PySem.F.type_str_replace, typeIs_str _ _ _, (fun _ e => nomatch e), Calls.callWith_builtin rfl (Calls.evalArgs_plain (Calls.spliced_cons (Calls.Constant_str (Calls.spliced_cons (Calls.Constant_str (Calls.spliced_nil ?_))))))⟩
  exact PySem.SC.replace (show s1.toks ≠ 0 by omega) (show s1.toks + 1 ≠ 0 by omega) (show s1.toks ≠ s1.toks + 1 by omega) hyz hb fun t' k => ⟨.str (Txt.replace a y z), H1, I1.tok k, ⟨t', rfl⟩, q⟩
/-- d.get(key) of a written dict with text keys -/
def tKGet (K : PySem.W.Frag) (d : Addr) (to te : TE) : TE := fun σ H Q => to σ H fun x H1 => x = .ref d ∧ te σ H1 fun y H2 => ∃ (z : Str) (r : Option Value) (v : V), y = .str z ∧ PySem.W.nsIn K d z = some r ∧ RelV v (r.getD .none) ∧ Q v H2
theorem pe_kget {d : Addr} {es : Array DictEntry} {n : Nat} {apos cpos : Pos} (D : KDict X.K X.w d es n) (ho : PE X o to) (he : PE X e te) (m : M1 X o "get" apos e cpos) : PE X (.Call (.Attribute o "get" apos) [e] [] cpos) (tKGet X.K d to te) := by
  refine ⟨fun pins s σ H Q I h => ?_⟩
  refine wpAny_Call_method m.base m.few m.line PySem.F.plainAttrs_dict PySem.F.slot_dict_get PySem.F.type_dict_get (thn (ho.run pins s σ H _ I h) fun u s1 ⟨x, H1, I1, rx, ex, q1⟩ => ?_)
  subst ex
  obtain rfl : u = Value.ref d := rx
  refine ⟨kd_type D I1, fun a ea => ?_, ?_⟩
  · cases ea
    exact ⟨_, I1.kIn _ _ D.at_, rfl⟩
  rw [m.trees]
  refine Calls.callWith_builtin rfl (Calls.evalArgs_plain (Calls.spliced_cons (thn (he.run pins s1 σ H1 _ I1 q1) fun iv s2 ⟨y, H2, I2, ry, z, r, v, ey, e, rv, q2⟩ => Calls.spliced_nil ?_)))
  subst ey
  obtain ⟨t, rfl⟩ := ry
  refine call_meetsIn PySem.F.slot_dict_get (kd_type D I2) PySem.F.entry_dict_get (PySem.F.args_dict_get_2 _ _) (meets_dict_get (PySem.strKind X.prog X.w) d (PySem.strKind_is X.prog X.w z t) D.low) ⟨_, PySem.W.mapOf_K (prog := X.prog) I2.kIn D.at_ D.lit, ?_⟩
  rw [PySem.W.find_K D.at_ e]
  exact ⟨v, H2, I2.tok _, rv, q2⟩
/-- x in (.., ..), the items data of any depth -/
def rInT (K : PySem.W.Frag) : R2 := fun x y H Q => ∃ d ds, Dp K H x d ∧ Dp K H y (.tuple ds) ∧ SeqAt.shaped d = true ∧ SeqAt.shaped (.tuple ds) = true ∧ d.depth ≤ 60 ∧ Q (.bl (ds.any fun z => PyData.eqv z d)) H
theorem op_inT (hu : X.A.units + 64 < cLine) : OpR X (compareOp .In) (rInT X.K) := by
  intro pins s σ H x y v u Q I rx ry h
  obtain ⟨d, ds, hd, he, sd, se, dl, q⟩ := h
  obtain ⟨as, r1⟩ := Dp.reads I d x v hd rx
  obtain ⟨bs, r2⟩ := Dp.reads I (.tuple ds) y u he ry
  exact SeqAt.in_tuple_reads r2 r1 (SeqAt.canLay_of_shaped se) (SeqAt.canLay_of_shaped sd) (by omega) ⟨.bl _, H, I, rfl, q⟩
end
section
variable {X : Cx} {a : Expr} {ta : TE}
def tTr (K' : PySem.W.Frag) (ta : TE) : TT := fun σ H Q => ta σ H fun x H1 => ∃ k, TruV K' x H1 k ∧ Q k H1
theorem pt_tr {K' : PySem.W.Frag} (ha : PE X a ta) (hK : X.K = K' := by rfl) (he : ∀ whole, isTrue a X.env whole = (do let v ← whole; standAt a.pos; holding [v] (truthy v)) := by intro _; rfl) : PT X a (tTr K' ta) := by
  subst hK
  exact pt_truth ha he
end

/-! ### a text times a number; pairs of texts -/
theorem op_repS {X : Cx} : OpR X (binaryOp .Mult) (fun x y H Q => ∃ (z : Str) (n : Int), x = .str z ∧ y = .int n ∧ MulOk z n ∧ Q (.str (Txt.mul z n)) H) := by
  intro pins s σ H x y v u Q I rx ry h
  obtain ⟨z, n, rfl, rfl, ok, q⟩ := h
  obtain ⟨t, rfl⟩ := rx
  obtain ⟨t', rfl⟩ := ry
  exact PySem.SB.mul ok fun t' k => ⟨.str (Txt.mul z n), H, I.tok _, ⟨_, rfl⟩, q⟩

/-! ### texts of lists of signs -/
def mk (l : List Nat) : Str := ⟨l.toArray⟩
theorem tl_mk' (l : List Nat) : tl (mk l) = l := rfl
theorem mk_tl' (x : Str) : mk (tl x) = x := ext_tl rfl
theorem mk_len (l : List Nat) : (mk l).length = l.length := by rw [len_tl]; rfl
theorem join_mk (y : List Nat) (ps : List (List Nat)) : Txt.join (mk y) (ps.map mk) = mk (joinL y ps) := by
  refine ext_tl ?_
  rw [join_eq, tl_join, List.map_map]
  show joinL y (ps.map (tl ∘ mk)) = joinL y ps
  have : (tl ∘ mk) = id := by
    funext l
    rfl
  rw [this, List.map_id]
theorem take_filter {α : Type} (p : α → Bool) {l : List α} {i : Nat} {a : α} (h : l[i]? = some a) : (l.take (i + 1)).filter p = (l.take i).filter p ++ (if p a then [a] else []) := by
  rw [List.take_add_one, h, List.filter_append]
  show _ ++ List.filter p [a] = _
  rw [List.filter_cons]
  rfl

/-! ### a text, sign by sign; texts joined -/
theorem for_str {x : Str} {g : TG} {tb : TS} {D : Ends} {σ : L2.St} {H : Hp} (Pv : Nat → L2.St → Hp → Prop) (h0 : Pv 0 σ H)
    (hs : ∀ i c σ H, (tl x)[i]? = some c → Pv i σ H → g (.str ⟨#[c]⟩) σ H fun σ2 H2 => tb { D with nx := Pv (i + 1), ct := Pv (i + 1), bk := D.nx } σ2 H2) (hd : ∀ σ H, Pv (tl x).length σ H → D.nx σ H) :
    ∃ W : Nat → Nat → L2.St → Hp → Prop, (∃ m, W 0 m σ H) ∧ ∀ i m σ H, W i m σ H →
      ((Its x).stop i H ∧ D.nx σ H) ∨ ((Its x).go i H ∧ ∃ N : L2.St → Hp → Prop, (∀ σ' H', N σ' H' → ∃ m', m' < m ∧ W (i + 1) m' σ' H') ∧ ∀ y H', (Its x).yld i H y H' → g y σ H' fun σ2 H2 => tb { D with nx := N, ct := N, bk := D.nx } σ2 H2) := by
  have sz : x.cps.size = (tl x).length := by simp [tl]
  refine ⟨fun i m σ H => m = (tl x).length - i ∧ i ≤ (tl x).length ∧ Pv i σ H, ⟨(tl x).length, by simp, Nat.zero_le _, h0⟩, ?_⟩
  rintro i m σ H ⟨rfl, hi, p⟩
  by_cases hlt : i < (tl x).length
  · refine .inr ⟨by show i < x.cps.size; omega, Pv (i + 1), fun σ' H' p' => ⟨(tl x).length - (i + 1), by omega, rfl, hlt, p'⟩, fun y H' z => ?_⟩
    obtain ⟨e, c, hc, ey⟩ := z
    subst e ey
    exact hs i c σ _ (by rw [← hc]; simp [tl]) p
  · have e : i = (tl x).length := by omega
    subst e
    exact .inl ⟨by show x.cps.size ≤ (tl x).length; omega, hd σ H p⟩
theorem len_join (y : Str) (m : Nat) : ∀ ws : List Str, (∀ w ∈ ws, w.length ≤ m) → (Txt.join y ws).length ≤ (m + y.length) * ws.length := by
  intro ws h
  rw [join_eq, len_tl, tl_join]
  have hy : y.length = (tl y).length := len_tl y
  induction ws with
  | nil => exact Nat.zero_le _
  | cons a r ih =>
    have ha : (tl a).length ≤ m := by
      rw [← len_tl]
      exact h a (List.mem_cons_self ..)
    have ihr := ih fun w hw => h w (List.mem_cons_of_mem _ hw)
    cases r with
    | nil =>
      show (tl a).length ≤ (m + y.length) * 1
      omega
    | cons b r =>
      show (tl a ++ (tl y ++ joinL (tl y) ((b :: r).map tl))).length ≤ _
      rw [List.length_append, List.length_append, List.length_cons (a := a), Nat.mul_succ]
      omega
theorem sum_len (m : Nat) : ∀ ws : List Str, (∀ w ∈ ws, w.length ≤ m) → (ws.map (·.length)).sum ≤ m * ws.length
  | [], _ => Nat.zero_le _
  | a :: r, h => by
    have ih := sum_len m r fun w hw => h w (List.mem_cons_of_mem _ hw)
    have ha := h a (List.mem_cons_self ..)
    rw [List.map_cons, List.sum_cons, List.length_cons, Nat.mul_succ]
    omega

/-! ### the source of draws -/
/-- a source of draws stands at D: its two lists at A and B, so many draws made -/
structure Drw (H : Hp) (D A B : Addr) (n : Int) : Prop where
  ex : ∃ (as bs : List Int) (c : Int), H D = some (.lst [.ref A, .int c, .ref B, .int n]) ∧ H A = some (.lst (as.map V.int)) ∧ H B = some (.lst (bs.map V.int))
  ab : A ≠ B
  pos : 0 ≤ n
/-- all but what a draw may change stands as it stood -/
def Kept (D A : Addr) (H H' : Hp) : Prop := ∀ b o, H b = some o → b ≠ D → b ≠ A → H' b = some o
theorem Kept.refl {D A : Addr} {H : Hp} : Kept D A H H := fun _ _ e _ _ => e
theorem Kept.trans {D A : Addr} {H H' H'' : Hp} (h : Kept D A H H') (k : Kept D A H' H'') : Kept D A H H'' := fun b o e n m => k b o (h b o e n m) n m
theorem Kept.of {D A : Addr} {H H' : Hp} (h : Same H H') : Kept D A H H' := fun b o e _ _ => h b o e
theorem Kept.upd {D A p : Addr} {o : HO} {H H' : Hp} (h : Kept D A H H') (hp : H p = none) : Kept D A H (L2.upd H' p o) := fun b x e n m => by
  rw [upd_ne (ne_of_none e hp)]
  exact h b x e n m
theorem Drw.same {H H' : Hp} {D A B : Addr} {n : Int} (h : Drw H D A B n) (k : Same H H') : Drw H' D A B n := by
  obtain ⟨⟨as, bs, c, h1, h2, h3⟩, h4, h5⟩ := h
  exact ⟨⟨as, bs, c, k _ _ h1, k _ _ h2, k _ _ h3⟩, h4, h5⟩
theorem Drw.tracked {H : Hp} {D A B : Addr} {n : Int} (h : Drw H D A B n) : (∃ o, H D = some o) ∧ (∃ o, H A = some o) ∧ ∃ o, H B = some o := by
  obtain ⟨⟨as, bs, c, h1, h2, h3⟩, h4, h5⟩ := h
  exact ⟨⟨_, h1⟩, ⟨_, h2⟩, ⟨_, h3⟩⟩
/-- a change at a third place -/
theorem Drw.upd {H : Hp} {D A B p : Addr} {o : HO} {n : Int} (h : Drw H D A B n) (hD : p ≠ D) (hA : p ≠ A) (hB : p ≠ B) : Drw (L2.upd H p o) D A B n := by
  obtain ⟨⟨as, bs, c, h1, h2, h3⟩, h4, h5⟩ := h
  exact ⟨⟨as, bs, c, by rw [upd_ne (Ne.symm hD)]; exact h1, by rw [upd_ne (Ne.symm hA)]; exact h2, by rw [upd_ne (Ne.symm hB)]; exact h3⟩, h4, h5⟩
theorem Drw.new {H : Hp} {D A B p : Addr} {o : HO} {n : Int} (h : Drw H D A B n) (hp : H p = none) : Drw (L2.upd H p o) D A B n := h.same (same_new hp)

theorem canLay_ints (ns : List Int) : PyData.canLayAll0 (ns.map PyData.int) = true := by
  induction ns with
  | nil => rfl
  | cons x r ih => simpa [PyData.canLayAll0, PyData.canLay0] using ih
theorem depth_ints (ns : List Int) : PyData.depthAll (ns.map PyData.int) ≤ 1 := by
  induction ns with
  | nil => simp [PyData.depthAll]
  | cons x r ih => simp [PyData.depthAll, PyData.depth]; omega
theorem shaped_ints (ns : List Int) : SeqAt.shaped (.list (ns.map PyData.int)) = true := by
  have h1 := canLay_ints ns
  have h2 := depth_ints ns
  simp [SeqAt.shaped, PyData.canLay0, PyData.depth, h1]
  omega
theorem dp_ints {K : PySem.W.Frag} {H : Hp} : ∀ (ns : List Int), DpAll K H (ns.map V.int) (ns.map PyData.int)
  | [] => .nil
  | x :: r => .cons (.int x) (dp_ints r)
theorem eqv_nil (ns : List Int) : PyData.eqv (.list (ns.map PyData.int)) (.list []) = ns.isEmpty := by
  cases ns <;> simp [PyData.eqv, PyData.eqvAll]

section
variable {P : Program} {w : World} {K : PySem.W.Frag} {mg : Str → Option Value} {base : Heap}
/-! ### _law_mixed -/
def sp_law_mixed : Sp := fun vs H Q _ => ∃ (s k : Int), vs = [.int s, .int k] ∧ 0 ≤ k ∧ k < 4194304 ∧ ∀ r, Q (.int r) H
theorem ok_law_mixed {f : Addr} {fd : FuncData} {dvs : List V} (F : Fn K "_law_mixed" s_law_mixed dvs f fd) : FnOk P w K mg base CX0 1 f fd ["seed", "k"] (sp_law_mixed) := by
  refine Fn.okN F sc_law_mixed (fun vs H Q E h => ?_) (fun cdv A outer s H vs Q E hr h => ?_)
  · obtain ⟨_, _, rfl, _⟩ := h
    rfl
  · obtain ⟨x, y, rfl, y0, y1, k⟩ := h
    refine ⟨_, (pss_cons (ps_set (i := 2) sc_law_mixed.nd rfl (.inl rfl) (pe_op op_mod (pe_op op_pow (pe_op op_add (pe_op op_add (pe_op op_mod (pv 0) pe_int) (pe_op op_mul pe_int (pv 1))) pe_int) pe_int) pe_int))
      (pss_one (ps_ret (pe_op op_mod (pe_op op_pow (pe_op op_add (pe_op op_add (pe_op op_mul (pv 2) pe_int) (pe_op op_mul (pe_op op_mul pe_int (pv 1)) (pv 1))) pe_int) pe_int) pe_int)))), ?_⟩
    have e1 : 0 ≤ x % 2147483647 := Int.emod_nonneg _ (by decide)
    have e2 : x % 2147483647 < 2147483647 := Int.emod_lt_of_pos _ (by decide)
    refine ⟨_, rfl, _, _, rfl, rfl, (by show (0 : Int) < 2147483647; decide), _, rfl, _, _, rfl, rfl, .inl ⟨by decide, by decide⟩, _, _, rfl, rfl, _, _, rfl, rfl, _, _, rfl, rfl, ⟨by decide, by decide, ?_⟩, _, _, rfl, rfl, (by show (0 : Int) < 2147483629; decide), ?_⟩
    · generalize x % 2147483647 = m at e1 e2
      omega
    have g1 : ∀ z : Int, 0 ≤ z % 2147483629 := fun z => Int.emod_nonneg _ (by decide)
    have g2 : ∀ z : Int, z % 2147483629 < 2147483629 := fun z => Int.emod_lt_of_pos _ (by decide)
    generalize hz : ((x % 2147483647 + 7919 * y + 104729) ^ (5 : Int).toNat) = z
    have z1 := g1 z
    have z2 := g2 z
    generalize z % 2147483629 = u at z1 z2
    have yy : 40503 * y * y ≤ 40503 * 4194304 * 4194304 := Int.mul_le_mul (by omega) (by omega) y0 (by decide)
    have yy0 : 0 ≤ 40503 * y * y := Int.mul_nonneg (by omega) y0
    refine ⟨_, rfl, _, _, rfl, rfl, .inl ⟨by omega, by omega⟩, _, rfl, _, _, rfl, rfl, .inl ⟨by decide, by decide⟩, _, rfl, _, _, rfl, rfl, .inl ⟨by omega, by omega⟩, _, _, rfl, rfl, _, _, rfl, rfl, _, _, rfl, rfl, ⟨by decide, by decide, ?_⟩, _, _, rfl, rfl, (by show (0 : Int) < 1000000007; decide), ?_⟩
    · generalize 40503 * y * y = q at yy yy0
      omega
    · exact k _
/-! ### _law_draws -/
def sp_law_draws (K : PySem.W.Frag) : Sp := fun vs H Q _ => ∃ (a : Addr) (ns : List Int), vs = [.ref a] ∧ SqL K H a (ns.map V.int) ∧ ns.length ≤ 63 ∧
  ∀ (H' : Hp) (D A B : Addr), Same H H' → Drw H' D A B 0 → H D = none → H A = none → Q (.ref D) H'
theorem ok_law_draws {f : Addr} {fd : FuncData} {dvs : List V} (F : Fn K "_law_draws" s_law_draws dvs f fd) : FnOk P w K mg base CX0 1 f fd ["script"] (sp_law_draws K) := by
  refine Fn.okN F sc_law_draws (fun vs H Q E h => ?_) (fun cdv A outer s H vs Q E hr h => ?_)
  · obtain ⟨_, _, rfl, _⟩ := h
    rfl
  · obtain ⟨a, ns, rfl, hS, hl, k⟩ := h
    refine ⟨_, (pss_one (ps_ret (pe_lst (pa_cons (pe_lc (own := [("item", 1)]) (g := gName 1) (by rfl) sc_law_draws.nd (pi_list (pv 0)) (blkOk_by (own := [("item", 1)]) (N := ["script", "item"]) (sc := defScope s_law_draws) (by decide +kernel)) (fun _ _ _ _ _ => (pg_name (i := 1) sc_law_draws.nd rfl (.inl rfl))) (fun _ _ _ _ _ => (pts_one (pt_cmpR op_ge (pv 1) (pe_op op_pow pe_int pe_int) (nomark _)))) (fun _ _ _ _ _ => (pv 1))) (pa_cons pe_int (pa_cons (pe_lc (own := [("item", 1)]) (g := gName 1) (by rfl) sc_law_draws.nd (pi_list (pv 0)) (blkOk_by (own := [("item", 1)]) (N := ["script", "item"]) (sc := defScope s_law_draws) (by decide +kernel)) (fun _ _ _ _ _ => (pg_name (i := 1) sc_law_draws.nd rfl (.inl rfl))) (fun _ _ _ _ _ => (pts_one (pt_cmpR op_lt (pv 1) (pe_op op_pow pe_int pe_int) (nomark _)))) (fun _ _ _ _ _ => (pv 1))) (pa_cons pe_int pa_nil))))))), ?_⟩
    refine ⟨_, rfl, a, rfl, ⟨_, hS⟩, fun A1 nA => lc_list (K := K) (a := a) (xs := ns.map V.int) (fun i H2 => ∃ acc : List Int, acc.length ≤ i ∧ H2 A1 = some (.lst (acc.map V.int)) ∧ Same H H2)
      ⟨[], Nat.le_refl _, upd_same, same_new nA⟩ (fun i H2 _ h2 => by obtain ⟨_, _, _, s2⟩ := h2; exact s2.seq hS) ?_ ?_⟩
    · rintro i x H2 hi ⟨acc, l2, e2, s2⟩
      obtain ⟨z, rfl⟩ := int_at hi
      have hil : i < (ns.map V.int).length := (List.getElem?_eq_some_iff.mp hi).1
      rw [List.length_map] at hil
      refine ⟨rfl, _, rfl, _, _, rfl, rfl, ⟨by decide, by decide, by decide⟩, _, _, rfl, rfl, _, rfl, ite2 (fun _ => ?_) (fun _ => ?_)⟩
      · refine ⟨_, rfl, _, e2, by rw [List.length_map]; exact small1000 (by omega), acc ++ [z], by rw [List.length_append]; exact Nat.succ_le_succ l2, ?_, fun b o e => ?_⟩
        · rw [upd_same, List.map_append]
          rfl
        · rw [upd_ne (ne_of_none e nA)]
          exact s2 b o e
      · exact ⟨acc, by omega, e2, s2⟩
    · rintro H2 ⟨as, l2, e2, s2⟩
      refine ⟨_, rfl, a, rfl, ⟨_, s2.seq hS⟩, fun B1 nB => lc_list (K := K) (a := a) (xs := ns.map V.int) (fun i H3 => ∃ acc : List Int, acc.length ≤ i ∧ H3 B1 = some (.lst (acc.map V.int)) ∧ Same H2 H3)
        ⟨[], Nat.le_refl _, upd_same, same_new nB⟩ (fun i H3 _ h3 => by obtain ⟨_, _, _, s3⟩ := h3; exact (s2.trans s3).seq hS) ?_ ?_⟩
      · rintro i x H3 hi ⟨acc, l3, e3, s3⟩
        obtain ⟨z, rfl⟩ := int_at hi
        have hil : i < (ns.map V.int).length := (List.getElem?_eq_some_iff.mp hi).1
        rw [List.length_map] at hil
        refine ⟨rfl, _, rfl, _, _, rfl, rfl, ⟨by decide, by decide, by decide⟩, _, _, rfl, rfl, _, rfl, ite2 (fun _ => ?_) (fun _ => ?_)⟩
        · refine ⟨_, rfl, _, e3, by rw [List.length_map]; exact small1000 (by omega), acc ++ [z], by rw [List.length_append]; exact Nat.succ_le_succ l3, ?_, fun b o e => ?_⟩
          · rw [upd_same, List.map_append]
            rfl
          · rw [upd_ne (ne_of_none e nB)]
            exact s3 b o e
        · exact ⟨acc, by omega, e3, s3⟩
      · rintro H3 ⟨bs, l3, e3, s3⟩
        have eA := s3 _ _ e2
        have nAB : A1 ≠ B1 := ne_of_none e2 nB
        refine ⟨by show 4 ≤ sizeLine; decide, fun D1 nD => ?_⟩
        have s4 := same_new (o := .lst [.ref A1, .int 0, .ref B1, .int 0]) nD
        refine k _ D1 A1 B1 (s2.trans (s3.trans s4)) ⟨⟨as, bs, 0, upd_same, s4 _ _ eA, s4 _ _ e3⟩, nAB, Int.le_refl _⟩ ((s2.trans s3).free nD) nA
/-! ### _law_take -/
def sp_law_take : Sp := fun vs H Q _ => ∃ (D A B : Addr) (n size : Int), vs = [.ref D, .int size] ∧ Drw H D A B n ∧ n < 1000000 ∧ 1 ≤ size ∧ size < 1073741824 ∧
  ∀ (r : Int) (H' : Hp), 0 ≤ r → r < size → Drw H' D A B (n + 1) → Kept D A H H' → Q (.int r) H'
/-- within a draw -/
structure Mids (H : Hp) (D A B : Addr) (m : Int) (H1 : Hp) : Prop where
  ex : ∃ (as bs : List Int) (c : Int), H1 D = some (.lst [.ref A, .int c, .ref B, .int m]) ∧ H1 A = some (.lst (as.map V.int)) ∧ H1 B = some (.lst (bs.map V.int))
  kp : Kept D A H H1
theorem ok_law_take {f : Addr} {fd : FuncData} {dvs : List V} (F : Fn K "_law_take" s_law_take dvs f fd) (O_law_mixed : Own P w K mg base "_law_mixed" 1 ["seed", "k"] [] (sp_law_mixed)) (m_len : mg "len" = none) : FnOk P w K mg base CX0 2 f fd ["draws", "size"] (sp_law_take) := by
  refine Fn.okN F sc_law_take (fun vs H Q E h => ?_) (fun cdv A outer s H vs Q E hr h => ?_)
  · obtain ⟨_, _, _, _, _, rfl, _⟩ := h
    rfl
  · obtain ⟨D, A1, B, n, size, rfl, ⟨⟨as, bs, c, hD, hA, hB⟩, nAB, n0⟩, hn, z0, z1, k⟩ := h
    refine ⟨_, (pss_cons (ps_asg (pe_op op_add (pe_ix ix_list (pv 0) pe_int (fun _ _ => rfl)) pe_int) (pg_sub (pv 0) pe_int set_list))
      (pss_cut (ps_if (PW.pt (pw_and (pt_cmpR op_eq (pe_ix ix_list (pv 0) pe_int (fun _ _ => rfl)) pe_int (nomark _)) (pw_and1 (pt_cmpR (op_neD hr.units) (pe_ix ix_list (pv 0) pe_int (fun _ _ => rfl)) (pe_lst pa_nil) (nomark _)))))
          (pss_one (ps_asg (pe_bm PySem.F.plainAttrs_list PySem.F.slot_list_pop PySem.F.type_list_pop mt_popAt (pe_ix ix_list (pv 0) pe_int (fun _ _ => rfl)) (pa_cons pe_int pa_nil)) (pg_sub (pv 0) pe_int set_list)))
          pss_nil)
      (pss_cons (ps_if (pt_cmpR op_gt (pe_ix ix_list (pv 0) pe_int (fun _ _ => rfl)) pe_int (nomark _))
          (pss_cons (ps_set (i := 2) sc_law_take.nd rfl (.inl rfl) (pe_op op_mod (pe_ix ix_list (pv 0) pe_int (fun _ _ => rfl)) (pv 1)))
            (pss_cons (ps_asg (pe_op op_fdivN (pe_ix ix_list (pv 0) pe_int (fun _ _ => rfl)) (pv 1)) (pg_sub (pv 0) pe_int set_list))
            (pss_one (ps_ret (pv 2)))))
          pss_nil)
      (pss_cons (ps_set (i := 3) sc_law_take.nd rfl (.inl rfl) pe_int)
      (pss_cut (ps_if (pt_cmpR (op_neD hr.units) (pe_ix ix_list (pv 0) pe_int (fun _ _ => rfl)) (pe_lst pa_nil) (nomark _))
          (pss_one (ps_set (i := 3) sc_law_take.nd rfl (.inl rfl) (pe_ix ix_list (pe_ix ix_list (pv 0) pe_int (fun _ _ => rfl)) (pe_op op_mod (pe_ix ix_list (pv 0) pe_int (fun _ _ => rfl)) (pe_callB call_len_seq (by rfl) m_len PySem.boot_len (pa_cons (pe_ix ix_list (pv 0) pe_int (fun _ _ => rfl)) pa_nil))) (fun _ _ => rfl))))
          pss_nil)
      (pss_cons (ps_set (i := 2) sc_law_take.nd rfl (.inl rfl) pe_int)
      (pss_cons (ps_set (i := 4) sc_law_take.nd rfl (.inl rfl) pe_int)
      (pss_cons (ps_while PassesOwn.never (pt_cmpR op_lt (pv 4) (pv 1) (nomark _))
          (pss_cons (ps_set (i := 2) sc_law_take.nd rfl (.inl rfl) (pe_op op_add (pe_op op_mul (pv 2) pe_int) (pe_own O_law_mixed (hr.mono (by decide)) (by rfl) (pa_cons (pv 3) (pa_cons (pe_op op_add (pe_ix ix_list (pv 0) pe_int (fun _ _ => rfl)) (pe_op op_mul pe_int (pe_op op_mod (pv 2) pe_int))) pa_nil)))))
            (pss_one (ps_set (i := 4) sc_law_take.nd rfl (.inl rfl) (pe_op op_mul (pv 4) pe_int)))))
      (pss_one (ps_ret (pe_op op_mod (pv 2) (pv 1)))))))))))), ?_⟩
    have nDA : D ≠ A1 := fun e => by
      rw [e, hA] at hD
      cases as <;> cases hD
    have nDB : D ≠ B := fun e => by
      rw [e, hB] at hD
      cases bs <;> cases hD
    -- one more draw
    refine ⟨.ref D, rfl, D, _, 3, .int n, rfl, rfl, SqL.of hD, atI_nat (j := 3) rfl, n, 1, rfl, rfl, .ref D, rfl, D, _, 3, 3, rfl, rfl, hD, rfl, ?_⟩
    have hD1 : (upd H D (.lst ([V.ref A1, .int c, .ref B, .int n].set 3 (.int (n + 1))))) D = some (.lst [V.ref A1, .int c, .ref B, .int (n + 1)]) := upd_same
    have hA1 : (upd H D (.lst ([V.ref A1, .int c, .ref B, .int n].set 3 (.int (n + 1))))) A1 = some (.lst (as.map V.int)) := by rw [upd_ne nDA.symm]; exact hA
    have hB1 : (upd H D (.lst ([V.ref A1, .int c, .ref B, .int n].set 3 (.int (n + 1))))) B = some (.lst (bs.map V.int)) := by rw [upd_ne nDB.symm]; exact hB
    have k1 : Kept D A1 H (upd H D (.lst ([V.ref A1, .int c, .ref B, .int n].set 3 (.int (n + 1))))) := fun b o e n1 _ => by rw [upd_ne n1]; exact e
    generalize upd H D (.lst ([V.ref A1, .int c, .ref B, .int n].set 3 (.int (n + 1)))) = H1 at hD1 hA1 hB1 k1
    clear hD hA hB
    -- the next of the great cells
    refine ⟨fun σ H2 => σ = [some (.ref D), some (.int size), none, none, none] ∧ Mids H D A1 B (n + 1) H2, ?_, ?_⟩
    · refine ⟨.ref D, rfl, D, _, 1, .int c, rfl, rfl, SqL.of hD1, atI_nat (j := 1) rfl, rfl, _, rfl, ?_⟩
      refine ite2 (fun _ => ?_) (fun _ => ?_)
      · refine ⟨.ref D, rfl, D, _, 0, .ref A1, rfl, rfl, SqL.of hD1, atI_nat (j := 0) rfl, by decide, fun N1 nN => ?_⟩
        have s2 := same_new (o := .lst []) nN
        refine ⟨_, _, .lst (SqL.of (s2 _ _ hA1)) (dp_ints as), .lst (SqL.of upd_same) .nil, shaped_ints as, shaped_ints [], _, rfl, ?_⟩
        rw [eqv_nil]
        cases as with
        | nil => exact iteF ⟨rfl, ⟨[], bs, c, s2 _ _ hD1, s2 _ _ hA1, s2 _ _ hB1⟩, fun b o e n1 n2 => s2 _ _ (k1 b o e n1 n2)⟩
        | cons a r =>
          refine iteT ?_
          refine ⟨.ref D, rfl, D, _, 0, .ref A1, rfl, rfl, SqL.of (s2 _ _ hD1), atI_nat (j := 0) rfl, .inl ⟨rfl, _, SqL.of (s2 _ _ hA1)⟩, A1, _, 0, 0, .int a, rfl, rfl, s2 _ _ hA1, by decide, by decide, ?_, rfl, ?_⟩
          · refine (ixN_seq (j := 0) ?_).1
            unfold ixN
            rw [if_pos (by decide), if_pos (by rw [List.length_map, List.length_cons]; omega)]
            rfl
          · refine ⟨.ref D, rfl, D, _, 1, 1, rfl, rfl, by rw [upd_ne nDA]; exact s2 _ _ hD1, rfl, rfl, ⟨r, bs, a, upd_same, ?_, ?_⟩, fun b o e n1 n2 => ?_⟩
            · rw [upd_ne nDA.symm, upd_same]
              rfl
            · rw [upd_ne nDB.symm, upd_ne nAB.symm]
              exact s2 _ _ hB1
            · rw [upd_ne n1, upd_ne n2]
              exact s2 _ _ (k1 b o e n1 n2)
      · exact ⟨rfl, ⟨as, bs, c, hD1, hA1, hB1⟩, k1⟩
    rintro σ2 H2 ⟨rfl, ⟨as2, bs2, c2, hD2, hA2, hB2⟩, k2⟩
    clear hD1 hA1 hB1 k1
    -- digits of a great cell
    refine ⟨.ref D, rfl, D, _, 1, .int c2, rfl, rfl, SqL.of hD2, atI_nat (j := 1) rfl, _, _, rfl, rfl, _, rfl, ite2 (fun _ => ?_) (fun _ => ?_)⟩
    · refine ⟨.ref D, rfl, D, _, 1, .int c2, rfl, rfl, SqL.of hD2, atI_nat (j := 1) rfl, _, rfl, _, _, rfl, rfl, (by show (0 : Int) < size; omega), ?_⟩
      refine ⟨.ref D, rfl, D, _, 1, .int c2, rfl, rfl, SqL.of hD2, atI_nat (j := 1) rfl, _, rfl, c2, size, rfl, rfl, ⟨by omega, by omega⟩, .ref D, rfl, D, _, 1, 1, rfl, rfl, hD2, rfl, ?_⟩
      refine ⟨_, rfl, ?_⟩
      refine k _ _ (Int.emod_nonneg _ (by omega)) (Int.emod_lt_of_pos _ (by omega)) ⟨⟨as2, bs2, c2.fdiv size, upd_same, ?_, ?_⟩, nAB, by omega⟩ (fun b o e n1 n2 => ?_)
      · rw [upd_ne nDA.symm]
        exact hA2
      · rw [upd_ne nDB.symm]
        exact hB2
      · rw [upd_ne n1]
        exact k2 b o e n1 n2
    -- a seed
    refine ⟨fun σ H3 => ∃ sd : Int, σ = [some (.ref D), some (.int size), none, some (.int sd), none] ∧ Mids H D A1 B (n + 1) H3, ?_, ?_⟩
    · refine ⟨.ref D, rfl, D, _, 2, .ref B, rfl, rfl, SqL.of hD2, atI_nat (j := 2) rfl, by decide, fun N1 nN => ?_⟩
      have s3 := same_new (o := .lst []) nN
      refine ⟨_, _, .lst (SqL.of (s3 _ _ hB2)) (dp_ints bs2), .lst (SqL.of upd_same) .nil, shaped_ints bs2, shaped_ints [], _, rfl, ?_⟩
      rw [eqv_nil]
      have M3 : Mids H D A1 B (n + 1) (upd H2 N1 (.lst [])) := ⟨⟨as2, bs2, c2, s3 _ _ hD2, s3 _ _ hA2, s3 _ _ hB2⟩, fun b o e n1 n2 => s3 _ _ (k2 b o e n1 n2)⟩
      cases bs2 with
      | nil => exact iteF ⟨17, rfl, M3⟩
      | cons b r =>
        refine iteT ?_
        have hp : (0 : Int) < (((b :: r).map V.int).length : Int) := by
          rw [List.length_map, List.length_cons]
          omega
        have m0 := Int.emod_nonneg (n + 1) (show (((b :: r).map V.int).length : Int) ≠ 0 by omega)
        have m1 := Int.emod_lt_of_pos (n + 1) hp
        obtain ⟨j, hj⟩ : ∃ j : Nat, (n + 1) % (((b :: r).map V.int).length : Int) = (j : Int) := ⟨_, (Int.toNat_of_nonneg m0).symm⟩
        have jl : j < (b :: r).length := by
          rw [hj, List.length_map] at m1
          omega
        refine ⟨.ref D, rfl, D, _, 2, .ref B, rfl, rfl, SqL.of (s3 _ _ hD2), atI_nat (j := 2) rfl, .ref D, rfl, D, _, 3, .int (n + 1), rfl, rfl, SqL.of (s3 _ _ hD2), atI_nat (j := 3) rfl, .ref D, rfl, D, _, 2, .ref B, rfl, rfl, SqL.of (s3 _ _ hD2), atI_nat (j := 2) rfl, B, _, rfl, .inl (SqL.of (s3 _ _ hB2)), _, _, rfl, rfl, hp, ?_⟩
        refine ⟨B, _, _, .int ((b :: r)[j]'jl), rfl, rfl, SqL.of (s3 _ _ hB2), ?_, ⟨_, rfl, M3⟩⟩
        rw [hj]
        refine atI_nat ?_
        rw [List.getElem?_map, List.getElem?_eq_getElem jl]
        rfl
    rintro σ3 H3 ⟨sd, rfl, M3⟩
    obtain ⟨⟨as3, bs3, c3, hD3, hA3, hB3⟩, k3⟩ := id M3
    -- the loop
    refine while_by (fun σ H4 => ∃ fd rc : Int, σ = [some (.ref D), some (.int size), some (.int fd), some (.int sd), some (.int rc)] ∧ H4 = H3 ∧ 1 ≤ rc) (fun σ _ => match σ with | [_, _, _, _, some (.int rc)] => (size - rc).toNat | _ => 0) ⟨0, 1, rfl, rfl, by decide⟩ ?_ ?_
    · rintro σ H4 ⟨fd, rc, rfl, rfl, r1⟩
      refine ⟨_, rfl, _, rfl, _, _, rfl, rfl, _, rfl, ite2 (fun lt => ?_) (fun _ => ?_)⟩
      · have lt' : rc < size := of_decide_eq_true lt
        have q0 : 0 ≤ fd % 97 := Int.emod_nonneg _ (by decide)
        have q1 : fd % 97 < 97 := Int.emod_lt_of_pos _ (by decide)
        refine ⟨_, rfl, _, _, rfl, rfl, .inr ⟨by decide, by decide⟩, _, rfl, .ref D, rfl, D, _, 3, .int (n + 1), rfl, rfl, SqL.of hD3, atI_nat (j := 3) rfl, _, rfl, _, _, rfl, rfl, (by show (0 : Int) < 97; decide), _, _, rfl, rfl, .inl ⟨by decide, by decide⟩, _, _, rfl, rfl, _, _, rfl, ?_, ?_, fun r => ?_⟩
        · generalize fd % 97 = q at q0 q1
          omega
        · generalize fd % 97 = q at q0 q1
          omega
        · refine ⟨_, _, rfl, rfl, _, rfl, _, _, rfl, rfl, .inr ⟨by decide, by decide⟩, ⟨_, _, rfl, rfl, by omega⟩, ?_⟩
          show (size - rc * 1000000007).toNat < (size - rc).toNat
          omega
      · refine ⟨_, rfl, _, rfl, _, _, rfl, rfl, (by show (0 : Int) < size; omega), ?_⟩
        exact k _ _ (Int.emod_nonneg _ (by omega)) (Int.emod_lt_of_pos _ (by omega)) ⟨⟨as3, bs3, c3, hD3, hA3, hB3⟩, nAB, by omega⟩ k3
    · rintro σ H4 Q1 Q2 i ⟨v, e1, w, e2, i1, j1, e3, e4, b, e5, q⟩
      exact ⟨v, e1, w, e2, i1, j1, e3, e4, b, e5, i _ _ q⟩

/-! ### _law_pick -/
/-- a list or a tuple that no draw touches -/
def SeqO (H : Hp) (p : Addr) (xs : List V) : Prop := H p = some (.lst xs) ∨ H p = some (.tup xs)
theorem SeqO.same {H H' : Hp} {p : Addr} {xs : List V} (h : SeqO H p xs) (k : Same H H') : SeqO H' p xs := h.elim (fun e => .inl (k _ _ e)) (fun e => .inr (k _ _ e))
theorem SeqO.kept {H H' : Hp} {p D A : Addr} {xs : List V} (h : SeqO H p xs) (k : Kept D A H H') (n1 : p ≠ D) (n2 : p ≠ A) : SeqO H' p xs := h.elim (fun e => .inl (k _ _ e n1 n2)) (fun e => .inr (k _ _ e n1 n2))
def sp_law_pick : Sp := fun vs H Q _ => ∃ (D A B p : Addr) (n : Int) (xs : List V), vs = [.ref D, .ref p] ∧ Drw H D A B n ∧ n < 1000000 ∧ SeqO H p xs ∧ p ≠ D ∧ p ≠ A ∧ 1 ≤ xs.length ∧ xs.length < 1000000 ∧
  ∀ (i : Nat) (v : V) (H' : Hp), xs[i]? = some v → Drw H' D A B (n + 1) → Kept D A H H' → Q v H'
theorem ok_law_pick {f : Addr} {fd : FuncData} {dvs : List V} (F : Fn K "_law_pick" s_law_pick dvs f fd) (O_law_take : Own P w K mg base "_law_take" 2 ["draws", "size"] [] (sp_law_take)) (m_len : mg "len" = none) : FnOk P w K mg base CX0 3 f fd ["draws", "things"] (sp_law_pick) := by
  refine Fn.okN F sc_law_pick (fun vs H Q E h => ?_) (fun cdv A outer s H vs Q E hr h => ?_)
  · obtain ⟨_, _, _, _, _, _, rfl, _⟩ := h
    rfl
  · obtain ⟨D, A1, B, p, n, xs, rfl, dr, hn, hp, pD, pA, l0, l1, k⟩ := h
    refine ⟨_, (pss_one (ps_ret (pe_ix ix_seq (pv 1) (pe_own O_law_take (hr.mono (by decide)) (by rfl) (pa_cons (pv 0) (pa_cons (pe_callB call_len_seq (by rfl) m_len PySem.boot_len (pa_cons (pv 1) pa_nil)) pa_nil))) (fun _ _ => rfl)))), ?_⟩
    refine ⟨.ref p, rfl, .ref D, rfl, .ref p, rfl, p, xs, rfl, hp.elim (fun e => .inl (SqL.of e)) (fun e => .inr (SqT.of e)), D, A1, B, n, (xs.length : Int), rfl, dr, hn, by omega, by omega, fun r H' r0 r1 dr' kp => ?_⟩
    obtain ⟨j, rfl⟩ : ∃ j : Nat, r = (j : Int) := ⟨_, (Int.toNat_of_nonneg r0).symm⟩
    have jl : j < xs.length := by omega
    have g : xs[j]? = some xs[j] := List.getElem?_eq_getElem jl
    rcases hp.kept kp pD pA with e | e
    · exact .inl ⟨p, xs, (j : Int), xs[j], rfl, rfl, SqL.of e, atI_nat g, k j _ _ g dr' kp⟩
    · exact .inr (.inl ⟨p, xs, (j : Int), xs[j], rfl, rfl, SqT.of e, atI_nat g, k j _ _ g dr' kp⟩)
end

/-! ### the mathematics of the stages, over lists of signs -/
/-- nothing but blanks -/
def isBlank (l : List Nat) : Bool := l.all fun c => c == 32 || c == 9
def MK : List Nat := [60, 66, 76, 65, 78, 75, 76, 73, 78, 69, 62]
def isMark (l : List Nat) : Bool := pre MK l && isBlank (l.drop 11)
def marksOf (w : List Nat) : List Nat := joinL [10] ((spl [10] 0 [] w).map fun l => if isMark l then [] else l)
def blanksOf (g : List Nat) : List Nat := joinL [10] ((spl [10] 0 [] g).map fun l => if isBlank l then [] else l)
def wordsOf (t : List Nat) : List Nat := joinL [32] ((spl [32] 0 [] (t.map fun c => if c == 9 || c == 10 then 32 else c)).filter fun w => !w.isEmpty)
theorem emptyEq (l : List Nat) : l.isEmpty = (l.length == 0) := by cases l <;> rfl

theorem joinL_len (S : List Nat) : ∀ {ps : List (List Nat)}, ps ≠ [] → (joinL S ps).length + S.length = (ps.map (·.length)).sum + ps.length * S.length
  | [], h => absurd rfl h
  | [p], _ => by
    show p.length + S.length = p.length + 0 + (0 + 1) * S.length
    omega
  | p :: q :: r, _ => by
    have ih := joinL_len S (ps := q :: r) (by simp)
    show (p ++ (S ++ joinL S (q :: r))).length + S.length = p.length + ((q :: r).map (·.length)).sum + ((q :: r).length + 1) * S.length
    rw [List.length_append, List.length_append, Nat.succ_mul]
    omega
theorem spl_ne (S : List Nat) : ∀ (k : Nat) (acc l : List Nat), spl S k acc l ≠ []
  | k, acc, [] => by rw [spl_nil]; simp
  | 0, acc, c :: r => by
    cases h : pre S (c :: r) with
    | true => rw [spl_hit h]; simp
    | false => rw [spl_miss h]; exact spl_ne S 0 _ r
  | k + 1, acc, _ :: r => spl_ne S k acc r
theorem small_kind {y : List Nat} (h : y.all (· < 256) = true) (x : Str) : ¬ Builtin.Str.strKind x < Builtin.Str.strKind ⟨y.toArray⟩ := kind_ok (by simpa using h)
theorem splitOf (x : Str) {y : List Nat} (hy : y ≠ []) (h : y.all (· < 256) = true) : (Txt.split x ⟨y.toArray⟩).map tl = spl y 0 [] (tl x) := split_spl x ⟨y.toArray⟩ hy (small_kind h x)
theorem joinL_spl (l : List Nat) {y : List Nat} (hy : y ≠ []) (h : y.all (· < 256) = true) : joinL y (spl y 0 [] l) = l := by
  have e := StrLaws.join_split (⟨l.toArray⟩ : Str) ⟨y.toArray⟩
  have e2 := congrArg tl e
  rw [tl_join, splitOf _ hy h] at e2
  exact e2
/-- of the parts: how long they are together, and how many -/
theorem spl_sizes (l : List Nat) {y : List Nat} (hy : y ≠ []) (h : y.all (· < 256) = true) : ((spl y 0 [] l).map (·.length)).sum ≤ l.length ∧ (spl y 0 [] l).length ≤ l.length + 1 := by
  have e := joinL_len y (spl_ne y 0 [] l)
  rw [joinL_spl l hy h] at e
  have hp : 1 ≤ y.length := List.length_pos_iff.mpr hy
  have hn : 1 ≤ (spl y 0 [] l).length := List.length_pos_iff.mpr (spl_ne y 0 [] l)
  generalize (spl y 0 [] l).length = n at e hn
  generalize ((spl y 0 [] l).map (·.length)).sum = s at e
  obtain ⟨m, rfl⟩ : ∃ m, n = m + 1 := ⟨n - 1, by omega⟩
  rw [Nat.succ_mul] at e
  have hm : m ≤ m * y.length := Nat.le_mul_of_pos_right m hp
  omega
theorem sum_map_le {α : Type} (f g : α → Nat) : ∀ (l : List α), (∀ x ∈ l, f x ≤ g x) → (l.map f).sum ≤ (l.map g).sum
  | [], _ => Nat.le_refl _
  | x :: r, h => by
    have h1 := h x (List.mem_cons_self ..)
    have h2 := sum_map_le f g r fun y hy => h y (List.mem_cons_of_mem _ hy)
    rw [List.map_cons, List.map_cons, List.sum_cons, List.sum_cons]
    omega
theorem map_lines_len (f : List Nat → List Nat) (hf : ∀ l, (f l).length ≤ l.length) (l : List Nat) {y : List Nat} (hy : y ≠ []) (h : y.all (· < 256) = true) : (joinL y ((spl y 0 [] l).map f)).length ≤ l.length := by
  have e := joinL_len y (spl_ne y 0 [] l)
  rw [joinL_spl l hy h] at e
  have e2 := joinL_len y (ps := (spl y 0 [] l).map f) (by simpa using spl_ne y 0 [] l)
  rw [List.length_map, List.map_map] at e2
  have e3 := sum_map_le (fun x => (f x).length) (fun x => x.length) (spl y 0 [] l) fun x _ => hf x
  have e4 : ((spl y 0 [] l).map ((fun x => x.length) ∘ f)).sum = ((spl y 0 [] l).map fun x => (f x).length).sum := rfl
  omega
theorem marks_len (w : List Nat) : (marksOf w).length ≤ w.length := map_lines_len _ (fun l => by split <;> simp) w (by simp) (by decide)
theorem blanks_len (w : List Nat) : (blanksOf w).length ≤ w.length := map_lines_len _ (fun l => by split <;> simp) w (by simp) (by decide)
theorem filter_sum (p : List Nat → Bool) : ∀ ps : List (List Nat), ((ps.filter p).map (·.length)).sum ≤ (ps.map (·.length)).sum
  | [] => Nat.le_refl _
  | x :: r => by
    have ih := filter_sum p r
    rw [List.filter_cons]
    split
    · rw [List.map_cons, List.map_cons, List.sum_cons, List.sum_cons]
      omega
    · rw [List.map_cons, List.sum_cons]
      omega
theorem words_len (t : List Nat) : (wordsOf t).length ≤ t.length := by
  unfold wordsOf
  generalize hu : (t.map fun c => if c == 9 || c == 10 then 32 else c) = u
  have lu : u.length = t.length := by rw [← hu, List.length_map]
  have e := joinL_len [32] (spl_ne [32] 0 [] u)
  rw [joinL_spl u (by simp) (by decide)] at e
  have l1 : ([32] : List Nat).length = 1 := rfl
  generalize hq : (spl [32] 0 [] u).filter (fun w => !w.isEmpty) = q
  have hs : (q.map (·.length)).sum ≤ ((spl [32] 0 [] u).map (·.length)).sum := by rw [← hq]; exact filter_sum _ _
  have hl : q.length ≤ (spl [32] 0 [] u).length := by rw [← hq]; exact List.length_filter_le _ _
  cases q with
  | nil => exact Nat.zero_le _
  | cons a r =>
    have e2 := joinL_len [32] (ps := a :: r) (by simp)
    rw [l1] at e e2
    omega

/-! ### stripping leaves nothing just of a blank text -/
theorem strip_blank (x : Str) (goes : Nat → Bool) : ((Txt.stripBy goes true true x).length = 0) ↔ (tl x).all goes = true := by
  rw [stripBy_eq]
  obtain ⟨h1, h2, h3⟩ := lo_facts goes x
  obtain ⟨g1, g2, g3, g4⟩ := hi_facts goes x (stripLo goes true x) h1
  have hl : (Builtin.Str.strSub x (stripLo goes true x) (stripHi goes true x (stripLo goes true x))).length = stripHi goes true x (stripLo goes true x) - stripLo goes true x := by
    rw [len_tl, tl_strSub, List.length_take, List.length_drop, ← len_tl]
    omega
  rw [hl]
  have get : ∀ k, k < x.length → x.cps.getD k 0 ∈ tl x := fun k hk => by
    have hk' : k < x.cps.size := hk
    simp [tl, Array.getD, hk']
  constructor
  · intro h
    rw [List.all_eq_true]
    intro c hc
    obtain ⟨k, hk, e⟩ := List.getElem_of_mem hc
    have hkx : k < x.length := by rw [len_tl]; exact hk
    have e2 : x.cps.getD k 0 = c := by
      have hk' : k < x.cps.size := hkx
      rw [← e]
      simp [tl, Array.getD, hk']
    rw [← e2]
    by_cases hk2 : k < stripLo goes true x
    · exact h2 k hk2
    · exact g3 k (by omega) hkx
  · intro h
    rw [List.all_eq_true] at h
    rcases h3 with e | e
    · omega
    · by_cases hlt : stripLo goes true x < x.length
      · rw [h _ (get _ hlt)] at e
        cases e
      · omega
theorem blank_strip (x : Str) : ((Txt.stripChars x ⟨#[32, 9]⟩).length = 0) ↔ isBlank (tl x) = true := by
  unfold Txt.stripChars
  rw [strip_blank]
  unfold isBlank
  have e : (fun c => (#[32, 9] : Array Nat).contains c) = fun c => (c == 32 || c == 9) := by
    funext c
    rw [Bool.eq_iff_iff, Array.contains_iff_mem]
    simp
  show (tl x).all (fun c => (#[32, 9] : Array Nat).contains c) = true ↔ _
  rw [e]
theorem starts_pre (x : Str) {y : List Nat} (hy : y ≠ []) : Txt.startswith x ⟨y.toArray⟩ = pre y (tl x) := by
  unfold Txt.startswith
  rw [Nat.zero_add]
  have h := at_iff (x := x) (y := ⟨y.toArray⟩) hy 0
  rw [List.drop_zero] at h
  unfold StrLaws.At at h
  rw [Nat.zero_add] at h
  rw [Bool.eq_iff_iff, Bool.and_eq_true, decide_eq_true_eq]
  exact h

/-! ### slices of texts -/
theorem cutS_from (z : Str) (k : Nat) : tl (cutS z (some (k : Int)) none) = (tl z).drop k := by
  show (z.cps.toList.drop (HT.sIx z.length 0 (some (k : Int)))).take (HT.sIx z.length z.length none - HT.sIx z.length 0 (some (k : Int))) = z.cps.toList.drop k
  have hl : z.cps.toList.length = z.length := (len_tl z).symm
  rw [HT.sIx_nat, HT.sIx_none]
  by_cases h : k ≤ z.length
  · rw [Nat.min_eq_left h]
    exact List.take_of_length_le (by rw [List.length_drop]; omega)
  · rw [Nat.min_eq_right (by omega), List.drop_of_length_le (by omega), List.drop_of_length_le (by omega)]
    simp
theorem cutS_to (z : Str) (k : Nat) : tl (cutS z none (some (k : Int))) = (tl z).take k := by
  show (z.cps.toList.drop (HT.sIx z.length 0 none)).take (HT.sIx z.length z.length (some (k : Int)) - HT.sIx z.length 0 none) = z.cps.toList.take k
  have hl : z.cps.toList.length = z.length := (len_tl z).symm
  rw [HT.sIx_nat, HT.sIx_none, List.drop_zero, Nat.sub_zero]
  by_cases h : k ≤ z.length
  · rw [Nat.min_eq_left h]
  · rw [Nat.min_eq_right (by omega), List.take_of_length_le (by omega), List.take_of_length_le (by omega)]
theorem cutS_mid (z : Str) (a b : Nat) (h : a ≤ z.length) : tl (cutS z (some (a : Int)) (some (b : Int))) = ((tl z).drop a).take (b - a) := by
  show (z.cps.toList.drop (HT.sIx z.length 0 (some (a : Int)))).take (HT.sIx z.length z.length (some (b : Int)) - HT.sIx z.length 0 (some (a : Int))) = (z.cps.toList.drop a).take (b - a)
  have hl : z.cps.toList.length = z.length := (len_tl z).symm
  rw [HT.sIx_nat, HT.sIx_nat, Nat.min_eq_left h]
  by_cases hb : b ≤ z.length
  · rw [Nat.min_eq_left hb]
  · rw [Nat.min_eq_right (by omega), List.take_of_length_le (by rw [List.length_drop]; omega), List.take_of_length_le (by rw [List.length_drop]; omega)]
theorem nl_eq : ("\n" : Str) = ⟨[10].toArray⟩ := ext_tl (by decide +kernel)
theorem sp_eq : (" " : Str) = ⟨[32].toArray⟩ := ext_tl (by decide +kernel)
theorem tab_eq : ("\t" : Str) = ⟨[9].toArray⟩ := ext_tl (by decide +kernel)
theorem str_at {ys : List Str} {i : Nat} {x : V} (h : (ys.map V.str)[i]? = some x) : ∃ z, x = V.str z ∧ ys[i]? = some z := by
  rw [List.getElem?_map] at h
  cases e : ys[i]? with
  | none =>
    rw [e] at h
    cases h
  | some z =>
    rw [e] at h
    exact ⟨z, (Option.some.inj h).symm, rfl⟩

/-! ### comprehensions over the signs of a text -/
theorem lc_str {x : Str} {g : TG} {tt : TT} {te : TE} {vs : List Nat} {σ : L2.St} {H1 : Hp} {D : Addr} {Qd : Hp → Prop} (Pv : Nat → Hp → Prop) (h0 : Pv 0 (upd H1 D (.lst [])))
    (hs : ∀ i c H, (tl x)[i]? = some c → Pv i H → g (.str ⟨#[c]⟩) (wipe σ vs) H fun σ2 H2 => wipe σ2 vs = wipe σ vs ∧ tt σ2 H2 fun b H3 =>
      if b = true then te σ2 H3 fun y H4 => ∃ acc, H4 D = some (.lst acc) ∧ acc.length < sizeLine ∧ Pv (i + 1) (upd H4 D (.lst (acc ++ [y]))) else Pv (i + 1) H3) (hd : ∀ H, Pv (tl x).length H → Qd H) :
    ∃ W : Nat → Nat → Hp → Prop, (∃ m, W 0 m (upd H1 D (.lst []))) ∧ ∀ i m H, W i m H →
      ((Its x).stop i H ∧ Qd H) ∨ ((Its x).go i H ∧ ∃ Nx : Hp → Prop, (∀ H', Nx H' → ∃ m', m' < m ∧ W (i + 1) m' H') ∧ ∀ y H', (Its x).yld i H y H' → g y (wipe σ vs) H' fun σ2 H2 => wipe σ2 vs = wipe σ vs ∧ tt σ2 H2 fun b H3 =>
        if b = true then te σ2 H3 fun y H4 => ∃ acc, H4 D = some (.lst acc) ∧ acc.length < sizeLine ∧ Nx (upd H4 D (.lst (acc ++ [y]))) else Nx H3) := by
  have sz : x.cps.size = (tl x).length := by simp [tl]
  refine ⟨fun i m H => m = (tl x).length - i ∧ i ≤ (tl x).length ∧ Pv i H, ⟨(tl x).length, by simp, Nat.zero_le _, h0⟩, ?_⟩
  rintro i m H ⟨rfl, hi, p⟩
  by_cases hlt : i < (tl x).length
  · refine .inr ⟨by show i < x.cps.size; omega, Pv (i + 1), fun H' p' => ⟨(tl x).length - (i + 1), by omega, rfl, hlt, p'⟩, fun y H' z => ?_⟩
    obtain ⟨e, c, hc, ey⟩ := z
    subst e ey
    exact hs i c _ (by rw [← hc]; simp [tl]) p
  · have e : i = (tl x).length := by omega
    subst e
    exact .inl ⟨by show x.cps.size ≤ (tl x).length; omega, hd H p⟩

/-! ### texts levelled: the mathematics -/
theorem exp_line {n : Nat} : ∀ (l r : List Nat) (col : Nat), (∀ c ∈ l, c ≠ 10 ∧ c ≠ 13) → Mun.expT n col (l ++ 10 :: r) = Mun.expT n col l ++ 10 :: Mun.expT n 0 r
  | [], r, col, _ => by
    rw [List.nil_append, expc (by decide), if_pos (.inl rfl)]
    rfl
  | c :: l, r, col, h => by
    have h1 := h c (List.mem_cons_self ..)
    have ih := fun k => exp_line (n := n) l r k fun d m => h d (List.mem_cons_of_mem _ m)
    rw [List.cons_append]
    by_cases e : c = 9
    · rw [e, exp9, exp9, ih, List.append_assoc]
    · rw [expc e, expc e, if_neg (fun z => z.elim h1.1 h1.2), ih]
      rfl
theorem exp_join {n : Nat} : ∀ ls : List (List Nat), (∀ l ∈ ls, ∀ c ∈ l, c ≠ 10 ∧ c ≠ 13) → Mun.expT n 0 (joinL [10] ls) = joinL [10] (ls.map (Mun.expT n 0))
  | [], _ => rfl
  | [l], _ => rfl
  | l :: m :: r, h => by
    have ih := exp_join (n := n) (m :: r) fun d z => h d (List.mem_cons_of_mem _ z)
    show Mun.expT n 0 (l ++ ([10] ++ joinL [10] (m :: r))) = Mun.expT n 0 l ++ ([10] ++ joinL [10] ((m :: r).map (Mun.expT n 0)))
    rw [← ih]
    exact exp_line l _ 0 (h l (List.mem_cons_self ..))
/-- a line widened, sign by sign -/
def stW (f : List Nat) (c : Nat) : List Nat := if c = 9 then f ++ List.replicate (8 - f.length % 8) 32 else f ++ [c]
theorem stW_all : ∀ (l f : List Nat), (∀ c ∈ l, c ≠ 10 ∧ c ≠ 13) → l.foldl stW f = f ++ Mun.expT 8 f.length l
  | [], f, _ => by
    show f = f ++ []
    rw [List.append_nil]
  | c :: l, f, h => by
    have h1 := h c (List.mem_cons_self ..)
    rw [List.foldl_cons, stW_all l _ fun d m => h d (List.mem_cons_of_mem _ m)]
    unfold stW
    by_cases e : c = 9
    · rw [if_pos e, e, exp9, List.append_assoc, List.length_append, List.length_replicate]
    · rw [if_neg e, expc e, if_neg (fun z => z.elim h1.1 h1.2), List.append_assoc, List.length_append]
      rfl
def lead (l : List Nat) : Nat := (l.takeWhile fun c => c == 32).length
theorem lead_le (l : List Nat) : lead l ≤ l.length := (List.takeWhile_sublist _).length_le
theorem lead_drop : ∀ (l : List Nat) (k : Nat), k ≤ lead l → lead (l.drop k) = lead l - k
  | [], k, h => by
    have e : k = 0 := Nat.le_zero.mp h
    subst e
    rfl
  | c :: l, 0, h => rfl
  | c :: l, k + 1, h => by
    unfold lead at h ⊢
    rw [List.takeWhile_cons] at h ⊢
    cases e : (c == 32) with
    | false =>
      rw [e] at h
      exact absurd h (Nat.not_succ_le_zero _)
    | true =>
      rw [e] at h
      have h' : k ≤ lead l := Nat.le_of_succ_le_succ h
      have ih := lead_drop l k h'
      rw [List.drop_succ_cons]
      show lead (l.drop k) = lead l + 1 - (k + 1)
      rw [ih]
      omega
theorem drop_nil_of {l : List Nat} {k : Nat} (h : k = 0) : l.drop k = l := by rw [h, List.drop_zero]
def spaces (l : List Nat) : Bool := l.all (· == 32)
/-- the least of some numbers, 0 of none -/
def leastN : List Nat → Nat
  | [] => 0
  | a :: r => r.foldl Nat.min a
theorem foldl_min : ∀ (r : List Nat) (a : Nat), r.foldl Nat.min a ≤ a ∧ (∀ y ∈ r, r.foldl Nat.min a ≤ y) ∧ (r.foldl Nat.min a = a ∨ r.foldl Nat.min a ∈ r)
  | [], a => ⟨Nat.le_refl _, fun _ h => (by cases h), .inl rfl⟩
  | b :: r, a => by
    have ih := foldl_min r (Nat.min a b)
    have m1 : Nat.min a b ≤ a := Nat.min_le_left ..
    have m2 : Nat.min a b ≤ b := Nat.min_le_right ..
    rw [List.foldl_cons]
    refine ⟨by omega, fun y h => ?_, ?_⟩
    · rcases List.mem_cons.mp h with rfl | h
      · omega
      · exact ih.2.1 y h
    · rcases ih.2.2 with e | e
      · rw [e]
        rcases Nat.le_total a b with z | z
        · exact .inl (Nat.min_eq_left z)
        · exact .inr (by rw [show Nat.min a b = b from Nat.min_eq_right z]; exact List.mem_cons_self ..)
      · exact .inr (List.mem_cons_of_mem _ e)
theorem leastN_spec {ns : List Nat} (h : ns ≠ []) : leastN ns ∈ ns ∧ ∀ y ∈ ns, leastN ns ≤ y := by
  cases ns with
  | nil => exact absurd rfl h
  | cons a r =>
    have g := foldl_min r a
    refine ⟨?_, fun y hy => ?_⟩
    · rcases g.2.2 with e | e
      · show r.foldl Nat.min a ∈ _
        rw [e]
        exact List.mem_cons_self ..
      · exact List.mem_cons_of_mem _ e
    · rcases List.mem_cons.mp hy with rfl | hy
      · exact g.1
      · exact g.2.1 y hy
theorem leastN_eq {ns : List Nat} {m : Nat} (h : m ∈ ns) (hl : ∀ y ∈ ns, m ≤ y) : m = leastN ns := by
  have g := leastN_spec (ns := ns) (by rintro rfl; cases h)
  have a := hl _ g.1
  have b := g.2 _ h
  omega
theorem leastN_int {ns : List Nat} {m : Int} (h : m ∈ ns.map (fun n : Nat => (n : Int))) (hl : ∀ y ∈ ns.map (fun n : Nat => (n : Int)), m ≤ y) : m = (leastN ns : Nat) := by
  obtain ⟨k, hk, rfl⟩ := List.mem_map.mp h
  rw [leastN_eq hk fun y hy => Int.ofNat_le.mp (hl _ (List.mem_map.mpr ⟨y, hy, rfl⟩))]
/-- the least indent of lines that are not blank -/
def leads (ws : List (List Nat)) : List Nat := (ws.filter fun l => !spaces l).map lead
def levW (ws : List (List Nat)) : List (List Nat) := ws.map (·.drop (leastN (leads ws)))
theorem spaces_drop {l : List Nat} {k : Nat} (hk : k ≤ lead l) : spaces (l.drop k) = spaces l := by
  cases e : spaces l with
  | true =>
    unfold spaces at e ⊢
    rw [List.all_eq_true] at e ⊢
    exact fun c hc => e c (List.mem_of_mem_drop hc)
  | false =>
    cases e2 : spaces (l.drop k) with
    | false => rfl
    | true =>
      have h1 : (l.take k).all (· == 32) = true := by
        have hp : l.take k <+: l.takeWhile (fun c => c == 32) := by
          refine List.prefix_of_prefix_length_le (List.take_prefix k l) (List.takeWhile_prefix _) ?_
          exact Nat.le_trans (List.length_take_le ..) hk
        rw [List.all_eq_true]
        intro c hc
        exact List.all_eq_true.mp (List.all_takeWhile (p := fun c => c == 32) (l := l)) c (hp.subset hc)
      have h2 : spaces l = true := by
        unfold spaces at e2 ⊢
        rw [← List.take_append_drop k l, List.all_append, h1, e2]
        rfl
      rw [h2] at e
      cases e
theorem levW_again (ws : List (List Nat)) : levW (levW ws) = levW ws := by
  have key : leastN (leads (levW ws)) = 0 := by
    unfold levW
    generalize hm : leastN (leads ws) = m
    have hle : ∀ l ∈ ws, spaces l = false → m ≤ lead l := fun l hl hs => by
      have h : lead l ∈ leads ws := List.mem_map.mpr ⟨l, List.mem_filter.mpr ⟨hl, by rw [hs]; rfl⟩, rfl⟩
      rw [← hm]
      exact (leastN_spec (ns := leads ws) (fun z => by rw [z] at h; cases h)).2 _ h
    have hsp : ∀ l ∈ ws, spaces (l.drop m) = spaces l := fun l hl => by
      cases hs : spaces l with
      | false => rw [spaces_drop (hle l hl hs), hs]
      | true =>
        unfold spaces at hs ⊢
        rw [List.all_eq_true] at hs ⊢
        exact fun c hc => hs c (List.mem_of_mem_drop hc)
    by_cases hn : leads ws = []
    · have e2 : leads (ws.map (·.drop m)) = [] := by
        unfold leads at hn ⊢
        rw [List.map_eq_nil_iff, List.filter_eq_nil_iff] at hn ⊢
        intro l hl
        obtain ⟨l', hl', rfl⟩ := List.mem_map.mp hl
        show ¬ (!spaces (l'.drop m)) = true
        rw [hsp l' hl']
        exact hn l' hl'
      rw [e2]
      rfl
    · have g := leastN_spec hn
      rw [hm] at g
      obtain ⟨l, hl, e⟩ := List.mem_map.mp g.1
      obtain ⟨hl1, hl2⟩ := List.mem_filter.mp hl
      have hl3 : spaces l = false := by
        cases z : spaces l with
        | false => rfl
        | true =>
          rw [z] at hl2
          cases hl2
      have h0 : (0 : Nat) ∈ leads (ws.map (·.drop m)) := by
        refine List.mem_map.mpr ⟨l.drop m, List.mem_filter.mpr ⟨List.mem_map.mpr ⟨l, hl1, rfl⟩, ?_⟩, ?_⟩
        · rw [hsp l hl1, hl3]
          rfl
        · rw [lead_drop l m (by omega)]
          omega
      exact (leastN_eq h0 fun y _ => Nat.zero_le y).symm
  show (levW ws).map (·.drop (leastN (leads (levW ws)))) = levW ws
  rw [key]
  exact (List.map_congr_left fun l _ => List.drop_zero).trans (List.map_id _)
theorem lead_at : ∀ (l : List Nat), spaces l = false → ∃ c, l[lead l]? = some c ∧ (c == 32) = false ∧ ∀ (m d : Nat), m < lead l → l[m]? = some d → (d == 32) = true
  | [], h => by cases h
  | c :: l, h => by
    unfold lead
    rw [List.takeWhile_cons]
    cases e : (c == 32) with
    | false => exact ⟨c, rfl, e, fun m d hm _ => absurd hm (Nat.not_lt_zero _)⟩
    | true =>
      have h' : spaces l = false := by
        unfold spaces at h ⊢
        rw [List.all_cons, e] at h
        exact h
      obtain ⟨d, h1, h2, h3⟩ := lead_at l h'
      refine ⟨d, h1, h2, fun m g hm hg => ?_⟩
      cases m with
      | zero =>
        cases hg
        exact e
      | succ m => exact h3 m g (Nat.lt_of_succ_lt_succ hm) hg
theorem lead_by (goes : Nat → Bool) : ∀ (l : List Nat) (n : Nat), n ≤ l.length → (∀ k c, k < n → l[k]? = some c → goes c = true) → (n = l.length ∨ ∃ c, l[n]? = some c ∧ goes c = false) → (l.takeWhile goes).length = n
  | [], n, h, _, _ => (Nat.le_zero.mp h).symm
  | c :: l, 0, _, _, h3 => by
    rcases h3 with h3 | ⟨d, h3, h4⟩
    · cases h3
    · cases h3
      rw [List.takeWhile_cons, h4]
      rfl
  | c :: l, n + 1, h1, h2, h3 => by
    rw [List.takeWhile_cons, h2 0 c (Nat.zero_lt_succ _) rfl]
    show (l.takeWhile goes).length + 1 = n + 1
    rw [lead_by goes l n (Nat.le_of_succ_le_succ h1) (fun k d hk hd => h2 (k + 1) d (Nat.succ_lt_succ hk) hd) (h3.elim (fun z => .inl (Nat.succ.inj z)) .inr)]
theorem lstrip_len (x : Str) (goes : Nat → Bool) : (Txt.stripBy goes true false x).length = x.length - ((tl x).takeWhile goes).length := by
  rw [stripBy_eq]
  obtain ⟨h1, h2, h3⟩ := lo_facts goes x
  have hh : stripHi goes false x (stripLo goes true x) = x.length := rfl
  rw [hh]
  have hl : (Builtin.Str.strSub x (stripLo goes true x) x.length).length = x.length - stripLo goes true x := by
    rw [len_tl, tl_strSub, List.length_take, List.length_drop, ← len_tl]
    omega
  rw [hl]
  have get : ∀ k c, (tl x)[k]? = some c → x.cps.getD k 0 = c := fun k c h => by
    have hk := (List.getElem?_eq_some_iff.mp h).1
    have hk' : k < x.cps.size := by simpa [tl] using hk
    have e2 := (List.getElem?_eq_some_iff.mp h).2
    rw [← e2]
    simp [tl, Array.getD, hk']
  rw [lead_by goes (tl x) (stripLo goes true x) (by rw [← len_tl]; exact h1) (fun k c hk hc => by rw [← get k c hc]; exact h2 k hk) ?_]
  rcases h3 with e | e
  · exact .inl (by rw [e, len_tl])
  · by_cases hlt : stripLo goes true x < (tl x).length
    · refine .inr ⟨(tl x)[stripLo goes true x], List.getElem?_eq_getElem hlt, ?_⟩
      rw [← get _ _ (List.getElem?_eq_getElem hlt)]
      exact e
    · rw [len_tl] at h1
      exact .inl (by omega)
theorem contains_one (c : Nat) : (#[c] : Array Nat).contains = fun d => d == c := by
  funext d
  rw [Bool.eq_iff_iff, Array.contains_iff_mem]
  simp
theorem indent_len (x : Str) : (x.length : Int) - ((Txt.lstripChars x ⟨#[32]⟩).length : Int) = (lead (tl x) : Nat) := by
  have h : (Txt.lstripChars x ⟨#[32]⟩).length = x.length - lead (tl x) := by
    unfold Txt.lstripChars
    rw [contains_one]
    exact lstrip_len x _
  have h2 := lead_le (tl x)
  rw [← len_tl] at h2
  omega
theorem spaces_strip (x : Str) : ((Txt.stripChars x ⟨#[32]⟩).length = 0) ↔ spaces (tl x) = true := by
  unfold Txt.stripChars
  rw [strip_blank, contains_one]
  exact Iff.rfl

/-! ### min(a list of ints, default=an int) -/
section
variable {prog : Program} {w : World} {A : Around} {R : Result → Shared → Prop} {I S : Addr} {fp wr : List Addr} {arr : Array Value} {St : Nat → Heap → Prop} {val : Nat → Int} {kw : List (Str × Value)}
theorem minD_run (W : Walks prog w A.in1 I fp wr arr.size (fun i v => arr[i]? = some v) St) (cmp : CmpOf prog w A.in1 .Lt (fun i v => arr[i]? = some v) fun i j => decide (val i < val j)) (nS : S ∉ fp) :
    ∀ (k j b : Nat) (u : Shared) (x : Value) (c : Nat), arr.size = j + 1 + k → b ≤ j → (∀ i, i ≤ j → val b ≤ val i) → St (j + 1) u.heap → arr[b]? = some x →
      u.heap.get? S = some { cls := .type "list", dict := none, data := .seq #[x, x] c, slots := #[] } →
      (∀ b x h' tk, arr[b]? = some x → (∀ i, i < arr.size → val b ≤ val i) → (∀ a o, a ∉ wr → a ≠ S → u.heap.get? a = some o → h'.get? a = some o) → R (.ok (.ret x)) { u with heap := h', toks := tk }) →
      codeAny (model prog w) A (.builtin "min.loop" ⟨[.ref I, .none, .ref S], kw⟩) R u := by
  have nW : S ∉ wr := fun z => nS (W.sub _ z)
  have idn : (toString "min" ++ toString ".loop" : String) = "min.loop" := by decide +kernel
  intro k
  induction k with
  | zero =>
    intro j b u x c ek hb hv pos hx gS done
    refine codeAny_builtin F.entry_min_loop ?_; rw [Around.under_plainId F.plain_min_loop _]
    show wpAny _ A.in1 (seqItems? (.ref S) >>= _) _ _ u
    refine wpAny_bind (wpAny_seqItems gS rfl ?_)
    show wpAny _ A.in1 (tryCatch (pyNext (.ref I)) _ >>= _) _ _ u
    refine wpAny_bind (wpAny_tryCatch (W.done u _ _ (by rw [ek]; exact pos) fun h1 tk1 old1 => ?_))
    show wpAny _ A.in1 (updateSeq S (fun _ => #[]) >>= _) _ _ _; refine wpAny_bind ?_
    refine wpAny_updateSeq (old1 S _ nW gS) rfl (wpAny_bind (wpAny_letGo (wpAny_pure ?_)))
    exact done b x _ tk1 hx (fun i hi => hv i (by omega)) fun a o ha hne e => (Heap.get?_update_other _ _ (Ne.symm hne)).trans (old1 a o ha e)
  | succ k next =>
    intro j b u x c ek hb hv pos hx gS done
    refine codeAny_builtin F.entry_min_loop ?_; rw [Around.under_plainId F.plain_min_loop _]
    show wpAny _ A.in1 (seqItems? (.ref S) >>= _) _ _ u
    refine wpAny_bind (wpAny_seqItems gS rfl ?_)
    show wpAny _ A.in1 (tryCatch (pyNext (.ref I)) _ >>= _) _ _ u
    refine wpAny_bind (wpAny_tryCatch (W.item (j + 1) u _ _ (by omega) pos fun y h1 tk1 hy pos1 old1 => ?_))
    have gS1 := old1 S _ nW gS
    show wpAny _ A.in1 (tryCatch (holding [y, y] (richCompare .Lt y x >>= _)) _ >>= _) _ _ _
    refine wpAny_bind (wpAny_tryCatch (wpAny_holding (wpAny_bind (cmp (j + 1) b y x _ _ _ hy hx ?_))))
    refine wpAny_bind (wpAny_holding (wpAny_truthy_bool ?_)); refine wpAny_bind (wpAny_letGo (wpAny_pure ?_))
    by_cases lt : val (j + 1) < val b
    · rw [if_pos (show (fun i j => decide (val i < val j)) (j + 1) b = true from decide_eq_true lt)]
      refine wpAny_bind ?_; refine wpAny_updateSeq gS1 rfl (wpAny_bind (wpAny_letGo ?_)); rw [idn]
      refine wpAny_pure ⟨plainId_quiet F.plain_min_loop _, next (j + 1) (j + 1) _ y _ (by omega) (Nat.le_refl _) (fun i hi => ?_) (W.frame _ _ _ pos1 fun a ha o e => ?_) hy (Heap.get?_update_self _ gS1 rfl) fun b' x' h2 tk2 e1 e2 old2 => ?_⟩
      · by_cases hi2 : i = j + 1
        · rw [hi2]
          exact Int.le_refl _
        · have := hv i (by omega)
          omega
      · exact (Heap.get?_update_other _ _ (fun z : S = a => nS (z ▸ ha))).trans e
      · exact done b' x' h2 tk2 e1 e2 fun a o ha hne e => old2 a o ha hne ((Heap.get?_update_other _ _ (Ne.symm hne)).trans (old1 a o ha e))
    · rw [if_neg (show ¬ (fun i j => decide (val i < val j)) (j + 1) b = true from fun z => lt (of_decide_eq_true z))]
      refine wpAny_bind (wpAny_letGo ?_); rw [idn]
      refine wpAny_pure ⟨plainId_quiet F.plain_min_loop _, next (j + 1) b _ x c (by omega) (by omega) (fun i hi => ?_) pos1 hx gS1 fun b' x' h2 tk2 e1 e2 old2 => ?_⟩
      · by_cases hi2 : i = j + 1
        · rw [hi2]
          omega
        · exact hv i (by omega)
      · exact done b' x' h2 tk2 e1 e2 fun a o ha hne e => old2 a o ha hne (old1 a o ha e)
theorem minD_from (W : Walks prog w A.in1 I fp wr arr.size (fun i v => arr[i]? = some v) St) (cmp : CmpOf prog w A.in1 .Lt (fun i v => arr[i]? = some v) fun i j => decide (val i < val j)) (nS : S ∉ fp) {d : Value} {z : Str}
    {u : Shared} {c : Nat} (pos : St 0 u.heap) (gS : u.heap.get? S = some { cls := .type "list", dict := none, data := .seq #[] c, slots := #[] })
    (dflt : ∀ h' tk, arr.size = 0 → (∀ a o, a ∉ wr → a ≠ S → u.heap.get? a = some o → h'.get? a = some o) → R (.ok (.ret d)) { u with heap := h', toks := tk })
    (done : ∀ b x h' tk, arr[b]? = some x → (∀ i, i < arr.size → val b ≤ val i) → (∀ a o, a ∉ wr → a ≠ S → u.heap.get? a = some o → h'.get? a = some o) → R (.ok (.ret x)) { u with heap := h', toks := tk }) :
    codeAny (model prog w) A (.builtin "min.loop" ⟨[.ref I, .none, .ref S], [(z, d)]⟩) R u := by
  have nW : S ∉ wr := fun z => nS (W.sub _ z)
  have idn : (toString "min" ++ toString ".loop" : String) = "min.loop" := by decide +kernel
  refine codeAny_builtin F.entry_min_loop ?_; rw [Around.under_plainId F.plain_min_loop _]
  show wpAny _ A.in1 (seqItems? (.ref S) >>= _) _ _ u
  refine wpAny_bind (wpAny_seqItems gS rfl ?_)
  show wpAny _ A.in1 (tryCatch (pyNext (.ref I)) _ >>= _) _ _ u
  by_cases h0 : arr.size = 0
  · refine wpAny_bind (wpAny_tryCatch (W.done u _ _ (by rw [h0]; exact pos) fun h1 tk1 old1 => ?_))
    refine wpAny_bind (wpAny_rule (wpAny_pure ?_))
    exact dflt h1 tk1 h0 fun a o ha _ e => old1 a o ha e
  · refine wpAny_bind (wpAny_tryCatch (W.item 0 u _ _ (by omega) pos fun y h1 tk1 hy pos1 old1 => ?_))
    have gS1 := old1 S _ nW gS
    show wpAny _ A.in1 (updateSeq S (fun _ => #[y, y]) >>= _) _ _ _; refine wpAny_bind ?_
    refine wpAny_updateSeq gS1 rfl ?_; rw [idn]
    refine wpAny_pure ⟨plainId_quiet F.plain_min_loop _, minD_run W cmp nS (arr.size - 1) 0 0 _ y _ (by omega) (Nat.le_refl _) (fun i hi => by rw [Nat.le_zero.mp hi]; exact Int.le_refl _) (W.frame _ _ _ pos1 fun a ha o e => ?_) hy (Heap.get?_update_self _ gS1 rfl) fun b' x' h2 tk2 e1 e2 old2 => ?_⟩
    · exact (Heap.get?_update_other _ _ (fun z : S = a => nS (z ▸ ha))).trans e
    · exact done b' x' h2 tk2 e1 e2 fun a o ha hne e => old2 a o ha hne ((Heap.get?_update_other _ _ (Ne.symm hne)).trans (old1 a o ha e))
end
theorem minD_args (a v : Value) : argsOk "min" ⟨[a], [(Str.ofString "default", v)]⟩ := by unfold argsOk; kernel_rfl
theorem minD_raw {prog : Program} {w : World} {A : Around} {E : Value → Shared → Prop} {s : Shared} {l : Addr} {its : List Value} {ns : List Int} {d : Value} {Q : Value → Shared → Prop} (hh : A.handled = none) (hl : s.heap.IsList l its.toArray) (hi : IntsAre its ns)
    (dflt : ∀ h' tk, ns = [] → (∀ a o, s.heap.get? a = some o → h'.get? a = some o) → Q d { s with heap := h', toks := tk })
    (done : ∀ h' tk m t, m ∈ ns → (∀ y ∈ ns, m ≤ y) → (∀ a o, s.heap.get? a = some o → h'.get? a = some o) → Q (.int m t) { s with heap := h', toks := tk }) :
    wpAny (model prog w) A (call (.builtin "min") [.ref l] [(Str.ofString "default", d)]) Q E s := by
  obtain ⟨xs, e⟩ := hi.allInts.items
  have hn : numsOf (intItems xs).toList = ns := by rw [← e]; exact hi.numsOf
  rw [nums_intItems] at hn
  subst hn
  rw [e] at hl
  have idn : (toString "min" ++ toString ".loop" : String) = "min.loop" := by decide +kernel
  have ld : ∀ i, i < (intItems xs).size → ∃ p, xs.toList[i]? = some p ∧ numAt xs i = p.1 := fun i hlt => by
    have hlt' : i < xs.size := by simpa [intItems] using hlt
    refine ⟨xs[i], by simp [hlt'], by simp [numAt, hlt']⟩
  refine kmk_tree F.kind_min F.plain_min F.entry_min (minD_args _ _) ?_
  show wpAny _ A.in1 (Builtin.Builtins.bindParams "min" ["key", "default"] 0 ⟨[], [(Str.ofString "default", d)]⟩ >>= _) _ _ s
  refine wpAny_bind (wpAny_of_eq (show Builtin.Builtins.bindParams "min" ["key", "default"] 0 ⟨[], [(Str.ofString "default", d)]⟩ = pure [none, some d] from rfl) ?_)
  refine wpAny_bind (wpAny_pure (wpAny_bind (iter_intList hl fun s2 e2 pos hfp hlI => ?_)))
  subst e2
  refine wpAny_bind (wpAny_newObj_type ?_); rw [idn]
  have nS : (s.heap.push { cls := .type "list_iterator", data := .fields #[.ref l, .int 0 0] }).objs.size ∉ [s.heap.objs.size, l] := fun z => Nat.lt_irrefl _ (hfp _ z)
  have W := Walks.list (prog := prog) (w := w) (A := A.in1) hh _ l hlI (intItems xs)
  have old : ∀ h' : Heap, (∀ a o, a ∉ [s.heap.objs.size] → a ≠ (s.heap.push { cls := .type "list_iterator", data := .fields #[.ref l, .int 0 0] }).objs.size → ((s.heap.push { cls := .type "list_iterator", data := .fields #[.ref l, .int 0 0] }).push { cls := .type "list", data := .seq #[] }).get? a = some o → h'.get? a = some o) → ∀ a o, s.heap.get? a = some o → h'.get? a = some o := fun h' k a o g => by
    have lt := Heap.lt_size g
    refine k a o (fun z => ?_) (fun z => ?_) (Heap.get?_push_of_some _ (Heap.get?_push_of_some _ g))
    · rw [List.mem_singleton.mp z] at lt
      exact Nat.lt_irrefl _ lt
    · rw [z, Heap.size_push] at lt
      exact Nat.lt_irrefl _ (Nat.lt_of_succ_lt lt)
  refine wpAny_pure ⟨plainId_quiet F.plain_min_loop _, minD_from W (CmpOf.ints_lt (numAt xs) (fun _ _ => intItems_at)) nS (W.frame _ _ _ pos fun a _ o g => Heap.get?_push_of_some _ g) (Heap.get?_push_size _ rfl) (fun h' tk h0 k => ?_) fun b x h' tk hx hle k => ?_⟩
  · refine dflt h' tk ?_ (old h' k)
    have hz : xs.toList.length = 0 := by simpa [intItems] using h0
    rw [List.length_eq_zero_iff.mp hz]
    rfl
  · obtain ⟨t, rfl⟩ := intItems_at hx
    obtain ⟨p, hp, ep⟩ := ld b (Array.getElem?_eq_some_iff.mp hx).1
    refine done h' tk _ t ?_ (fun y hy => ?_) (old h' k)
    · rw [ep]
      exact List.mem_map.mpr ⟨p, List.mem_of_getElem? hp, rfl⟩
    · obtain ⟨q, hq, rfl⟩ := List.mem_map.mp hy
      obtain ⟨i, hi', rfl⟩ := List.getElem_of_mem hq
      have hlt : i < (intItems xs).size := by simpa [intItems] using hi'
      obtain ⟨q, hq2, eq⟩ := ld i hlt
      rw [List.getElem?_eq_getElem hi'] at hq2
      cases hq2
      rw [← eq]
      exact hle i hlt
def rMinD (K : PySem.W.Frag) : List V → List V → Hp → VK → Prop := fun vs zs H Q => ∃ (a : Addr) (ns : List Int) (d : Int), vs = [V.ref a] ∧ zs = [.int d] ∧ SqL K H a (ns.map V.int) ∧ ∀ m, (ns = [] ∧ m = d) ∨ (m ∈ ns ∧ ∀ y, y ∈ ns → m ≤ y) → Q (.int m) H
theorem cr_minD {X : Cx} (hc : X.calm = true) : CallRK X (.builtin "min") ["default"] (rMinD X.K) := by
  intro pins s σ H xs zs us ws Q I r1 r2 h
  obtain ⟨a, ns, d, rfl, rfl, sq, q⟩ := h
  obtain ⟨its, rv, hl, _⟩ := I.list sq
  rw [Vals.ref1 r1]
  cases r2 with
  | cons r rr =>
    cases rr
    obtain ⟨t, rfl⟩ := r
    exact minD_raw (I.ok.hd hc) hl.isList rv.ints (fun h' tk e k => ⟨.int _, H, I.kept k, ⟨_, rfl⟩, q d (.inl ⟨e, rfl⟩)⟩) fun h' tk m t' h1 h2 k => ⟨.int _, H, I.kept k, ⟨_, rfl⟩, q m (.inr ⟨h1, h2⟩)⟩

/-! ### a list's index within a comprehension -/
theorem mt_indexK {X : Cx} {K' : PySem.W.Frag} (hK : X.K = K') : MtR X "list.index" (rIndex K') := by
  subst hK
  exact mt_index
theorem pe_bmK {X : Cx} {K' : PySem.W.Frag} (hK : X.K = K') {o e : Expr} {es : List Expr} {to : TE} {t : TA} {name : Str} {apos cpos : Pos} {T id : String} {r : V → List V → Hp → VK → Prop}
    (pa : PlainAttrs T) (slot : Slot T name id) (hty : typeOf (.builtin id) = pure (.type "method_descriptor")) (hm : MtR X id r) (ho : PE X o to) (ha : PA X (e :: es) t) (hbase : attributeBase o name X.env (eval o X.env) = eval o X.env := by rfl)
    (hfew : ((backTo cpos (starEach (e :: es) X.env)).all (fun x => !x.1) && (backToKw cpos (keywordEach [] X.env)).all (fun x => x.1.isSome) && decide ((e :: es).length + ([] : List Keyword).length + (if ([] : List Keyword).isEmpty then 0 else 1) < 30)) = true := by rfl)
    (hline : (apos.endLine == cpos.line) = true := by rfl) (hs : starEach (e :: es) X.env = (false, eval e X.env) :: starEach es X.env := by rfl) (hplain : (backTo cpos (starEach es X.env)).any (·.1) = false := by rfl) : PE X (.Call (.Attribute o name apos) (e :: es) [] cpos) (tBM K' T r to t) := by
  subst hK
  exact pe_bm pa slot hty hm ho ha hbase hfew hline hs hplain

theorem nine_spaces {l : List Nat} (h : ∀ c ∈ l, c ≠ 9) : isBlank l = spaces l := by
  unfold isBlank spaces
  induction l with
  | nil => rfl
  | cons c l ih =>
    have h9 : (c == 9) = false := beq_eq_false_iff_ne.mpr (h c (List.mem_cons_self ..))
    rw [List.all_cons, List.all_cons, h9, Bool.or_false, ih fun d m => h d (List.mem_cons_of_mem _ m)]
theorem exp_no9 (n col : Nat) (l : List Nat) : ∀ c ∈ Mun.expT n col l, c ≠ 9 := fun c h => by
  rcases Mun.exp_mem l col c h with rfl | ⟨_, h⟩
  · decide
  · exact h
theorem exp_no (n col : Nat) {l : List Nat} {d : Nat} (hd : d ≠ 32) (hl : d ∉ l) : d ∉ Mun.expT n col l := fun h => by
  rcases Mun.exp_mem l col d h with e | ⟨e, _⟩
  · exact hd e
  · exact hl e
theorem mk_of_tl : ∀ {ss : List Str} {ws : List (List Nat)}, ss.map tl = ws → ss = ws.map mk
  | [], ws, h => by
    rw [← h]
    rfl
  | s :: r, ws, h => by
    rw [← h, List.map_cons, List.map_cons, mk_tl', ← mk_of_tl (ss := r) rfl]
theorem split_join {x : Str} {ws : List (List Nat)} (h : tl x = joinL [10] ws) (hn : ws ≠ []) (h10 : ∀ l ∈ ws, (10 : Nat) ∉ l) : Txt.split x "\n" = ws.map mk := by
  refine mk_of_tl ?_
  rw [nl_eq, splitOf x (y := [10]) (by simp) (by decide), h]
  exact TL.spl_join hn h10
theorem sp_one : (" " : Str) = ⟨#[32]⟩ := ext_tl (by decide +kernel)
theorem len_one {a : Nat} : (⟨#[a]⟩ : Str).length = 1 := rfl
theorem lead_take (ws : List (List Nat)) {i : Nat} {l : List Nat} (h : ws[i]? = some l) : leads (ws.take (i + 1)) = leads (ws.take i) ++ (if spaces l then [] else [lead l]) := by
  unfold leads
  rw [take_filter _ h, List.map_append]
  cases spaces l <;> rfl
def natV (ns : List Nat) : List V := (ns.map fun n : Nat => (n : Int)).map V.int
theorem natV_app (a b : List Nat) : natV (a ++ b) = natV a ++ natV b := by
  unfold natV
  rw [List.map_append, List.map_append]
theorem leads_len (ws : List (List Nat)) : (leads ws).length ≤ ws.length := by
  unfold leads
  rw [List.length_map]
  exact List.length_filter_le ..
theorem join_parts : ∀ ws : List (List Nat), ws.length ≤ (joinL [10] ws).length + 1 ∧ ∀ l ∈ ws, l.length ≤ (joinL [10] ws).length
  | [] => ⟨Nat.zero_le _, fun _ h => (by cases h)⟩
  | [a] => ⟨by show 1 ≤ _; omega, fun l h => by rw [List.mem_singleton.mp h]; exact Nat.le_refl _⟩
  | a :: b :: r => by
    have ih := join_parts (b :: r)
    have e : joinL [10] (a :: b :: r) = a ++ ([10] ++ joinL [10] (b :: r)) := rfl
    have el : (joinL [10] (a :: b :: r)).length = a.length + (1 + (joinL [10] (b :: r)).length) := by rw [e, List.length_append, List.length_append]; rfl
    refine ⟨by rw [el, List.length_cons]; omega, fun l h => ?_⟩
    rcases List.mem_cons.mp h with rfl | h
    · omega
    · have := ih.2 l h
      omega
theorem app_len (x y : Str) : (x ++ y).length = x.length + y.length := by
  rw [len_tl, tl_append, List.length_append, len_tl, len_tl]
theorem nl_sum (m : Nat) (ws : List (List Nat)) (h : ws ≠ []) (hl : ∀ l ∈ ws, l.length ≤ m) : (joinL [10] ws).length + 1 ≤ m * ws.length + ws.length := by
  have a := joinL_len [10] h
  have b := sum_map_le (fun l : List Nat => l.length) (fun _ => m) ws hl
  have c : (ws.map fun _ => m).sum = m * ws.length := by
    clear a b h hl
    induction ws with
    | nil => rfl
    | cons x r ih =>
      rw [List.map_cons, List.sum_cons, ih, List.length_cons, Nat.mul_succ]
      omega
  have e1 : ([10] : List Nat).length = 1 := rfl
  rw [e1] at a
  omega
theorem sp_dec (c : Nat) : decide (V.str ⟨#[c]⟩ = V.str " ") = (c == 32) := by
  rw [sp_one, Bool.eq_iff_iff, decide_eq_true_iff, beq_iff_eq]
  constructor
  · intro h
    exact List.head_eq_of_cons_eq (congrArg (fun v => match v with | V.str y => tl y | _ => []) h)
  · rintro rfl
    rfl
theorem mem_join0 {c : Nat} : ∀ ws : List (List Nat), c ∈ joinL [] ws → ∃ u ∈ ws, c ∈ u
  | [], h => by cases h
  | [a], h => ⟨a, List.mem_cons_self .., h⟩
  | a :: b :: r, h => by
    have e : joinL [] (a :: b :: r) = a ++ ([] ++ joinL [] (b :: r)) := rfl
    rw [e, List.nil_append] at h
    rcases List.mem_append.mp h with h | h
    · exact ⟨a, List.mem_cons_self .., h⟩
    · obtain ⟨u, h1, h2⟩ := mem_join0 (b :: r) h
      exact ⟨u, List.mem_cons_of_mem _ h1, h2⟩
theorem lines_sum {ws : List (List Nat)} (h : ws ≠ []) (m : Nat) : ((ws.map fun l => mk (l.drop m)).map (·.length)).sum + ws.length ≤ (joinL [10] ws).length + 1 := by
  have a := joinL_len [10] h
  have b := sum_map_le (fun l : List Nat => (mk (l.drop m)).length) (fun l => l.length) ws fun l _ => by
    show (mk (l.drop m)).length ≤ l.length
    rw [mk_len, List.length_drop]
    omega
  rw [List.map_map]
  have e : ((fun x : Str => x.length) ∘ fun l : List Nat => mk (l.drop m)) = fun l : List Nat => (mk (l.drop m)).length := rfl
  rw [e]
  have e1 : ([10] : List Nat).length = 1 := rfl
  rw [e1] at a
  omega
theorem join_lev (ws : List (List Nat)) : Txt.join "\n" (ws.map fun l => mk (l.drop (leastN (leads ws)))) = mk (joinL [10] (levW ws)) := by
  have e : (ws.map fun l => mk (l.drop (leastN (leads ws)))) = (levW ws).map mk := by
    unfold levW
    rw [List.map_map]
    rfl
  rw [e]
  exact join_mk [10] _
theorem tab_dec (c : Nat) : decide (V.str ⟨#[c]⟩ = V.str "\t") = decide (c = 9) := by
  rw [tab_eq, Bool.eq_iff_iff, decide_eq_true_iff, decide_eq_true_iff]
  constructor
  · intro h
    exact List.head_eq_of_cons_eq (congrArg (fun v => match v with | V.str y => tl y | _ => []) h)
  · rintro rfl
    rfl
theorem strip_test (x : Str) : decide (V.str (Txt.stripChars x " ") = V.str "") = spaces (tl x) := by
  rw [sp_one, Bool.eq_iff_iff, decide_eq_true_iff, ← spaces_strip]
  constructor
  · intro h
    rw [V.str.inj h]
    decide +kernel
  · intro h
    refine congrArg V.str (ext_tl ?_)
    rw [len_tl] at h
    rw [List.length_eq_zero_iff.mp h]
    decide +kernel
section
variable {P : Program} {w : World} {K : PySem.W.Frag} {mg : Str → Option Value} {base : Heap}
/-! ### the program -/
def sp_is_blank : Sp := fun vs H Q _ => ∃ x : Str, vs = [.str x] ∧ x.length ≤ 1000000 ∧ Q (.bl (isBlank (tl x))) H
theorem ok_is_blank {f : Addr} {fd : FuncData} {dvs : List V} (F : Fn K "is_blank" s_is_blank dvs f fd) {t_BLANKS : Tok} (c_BLANKS : mg "BLANKS" = some (.str " \t" t_BLANKS)) : FnOk P w K mg base CX0 1 f fd ["line"] (sp_is_blank) := by
  refine Fn.okN F sc_is_blank (fun vs H Q E h => ?_) (fun cdv A outer s H vs Q E hr h => ?_)
  · obtain ⟨_, rfl, _⟩ := h
    rfl
  · obtain ⟨x, rfl, hx, k⟩ := h
    refine ⟨_, (pss_one (ps_ret (pe_notT (pe_m1 PySem.F.slot_str_strip PySem.F.type_str_strip mt_stripChars (pv 0) (pe_glob (v := .str " \t") rfl c_BLANKS ⟨_, rfl⟩))))), ?_⟩
    have e : (" \t" : Str) = ⟨#[32, 9]⟩ := ext_tl (by decide +kernel)
    refine ⟨_, rfl, ⟨_, rfl⟩, x, " \t", rfl, rfl, line_of hx, _, ⟨?_, rfl⟩, ?_⟩
    · exact Nat.le_trans (len_stripBy _ _ _ _) (line_of hx)
    · rw [e]
      have hb := blank_strip x
      cases h : isBlank (tl x) with
      | true =>
        rw [h] at k
        rw [show (((Txt.stripChars x ⟨#[32, 9]⟩).length : Int) != 0) = false by rw [hb.mpr h]; rfl]
        exact k
      | false =>
        rw [h] at k
        have hne : (Txt.stripChars x ⟨#[32, 9]⟩).length ≠ 0 := fun z => by
          rw [hb.mp z] at h
          cases h
        rw [show (((Txt.stripChars x ⟨#[32, 9]⟩).length : Int) != 0) = true by
          rw [bne_iff_ne]
          omega]
        exact k
def sp_indent_of : Sp := fun vs H Q _ => ∃ x : Str, vs = [.str x] ∧ x.length ≤ 1000000 ∧ Q (.int (lead (tl x) : Nat)) H
theorem ok_indent_of {f : Addr} {fd : FuncData} {dvs : List V} (F : Fn K "indent_of" s_indent_of dvs f fd) (m_len : mg "len" = none) : FnOk P w K mg base CX0 1 f fd ["line"] (sp_indent_of) := by
  refine Fn.okN F sc_indent_of (fun vs H Q E h => ?_) (fun cdv A outer s H vs Q E hr h => ?_)
  · obtain ⟨_, rfl, _⟩ := h
    rfl
  · obtain ⟨x, rfl, hx, k⟩ := h
    refine ⟨_, (pss_one (ps_ret (pe_op op_sub (pe_callB call_len_str (by rfl) m_len PySem.boot_len (pa_cons (pv 0) pa_nil)) (pe_callB call_len_str (by rfl) m_len PySem.boot_len (pa_cons (pe_m1 PySem.F.slot_str_lstrip PySem.F.type_str_lstrip mt_lstripChars (pv 0) pe_str) pa_nil))))), ?_⟩
    have e := indent_len x
    rw [← sp_one] at e
    rw [← e] at k
    exact ⟨.str x, rfl, x, rfl, line_of hx, .str x, rfl, ⟨_, rfl⟩, x, " ", rfl, rfl, line_of hx, _, rfl, Nat.le_trans (len_stripBy _ _ _ _) (line_of hx), _, _, rfl, rfl, k⟩
def sp_widened : Sp := fun vs H Q _ => ∃ x : Str, vs = [.str x] ∧ (tl x).length ≤ 10000 ∧ Q (.str (SX.S (Mun.expT 8 0 (tl x)))) H
theorem ok_widened {f : Addr} {fd : FuncData} {dvs : List V} (F : Fn K "widened" s_widened dvs f fd) {t_TAB : Tok} (c_TAB : mg "TAB" = some (.int 8 t_TAB)) : FnOk P w K mg base CX0 1 f fd ["text"] (sp_widened) := by
  refine Fn.okN F sc_widened (fun vs H Q E h => ?_) (fun cdv A outer s H vs Q E hr h => ?_)
  · obtain ⟨_, rfl, _⟩ := h
    rfl
  · obtain ⟨x, rfl, hx, k⟩ := h
    refine ⟨_, (pss_one (ps_ret (pe_m1 PySem.F.slot_str_expandtabs PySem.F.type_str_expandtabs mt_expandtabs (pv 0) (pe_glob (v := .int 8) rfl c_TAB ⟨_, rfl⟩)))), ?_⟩
    have lE := (Mun.exp_len (n := 8) (by decide) (tl x) 0).2
    exact ⟨.str x, rfl, ⟨_, rfl⟩, tl x, 8, congrArg V.str (mk_tl' x).symm, rfl, by decide, by decide, by omega, by omega, k⟩
def sp_levelled : Sp := fun vs H Q _ => ∃ (x : Str) (ls : List (List Nat)), vs = [.str x] ∧ tl x = joinL [10] ls ∧ ls ≠ [] ∧ (∀ l ∈ ls, ∀ c ∈ l, c ≠ 10 ∧ c ≠ 13) ∧ (tl x).length ≤ 10000 ∧
  ∀ H', Same H H' → Q (.str (mk (joinL [10] (levW (ls.map (Mun.expT 8 0)))))) H'
theorem ok_levelled {f : Addr} {fd : FuncData} {dvs : List V} (F : Fn K "levelled" s_levelled dvs f fd) (O_widened : Own P w K mg base "widened" 1 ["text"] [] (sp_widened)) (O_is_blank : Own P w K mg base "is_blank" 1 ["line"] [] (sp_is_blank)) (O_indent_of : Own P w K mg base "indent_of" 1 ["line"] [] (sp_indent_of)) (m_min : mg "min" = none) : FnOk P w K mg base CX0 2 f fd ["text"] (sp_levelled) := by
  refine Fn.okN F sc_levelled (fun vs H Q E h => ?_) (fun cdv A outer s H vs Q E hr h => ?_)
  · obtain ⟨_, _, rfl, _⟩ := h
    rfl
  · obtain ⟨x, ls, rfl, ex, hn, hc, hx, k⟩ := h
    refine ⟨_, (pss_cons (ps_set (i := 1) sc_levelled.nd rfl (.inl rfl) (pe_m1 PySem.F.slot_str_split PySem.F.type_str_split mt_split (pe_own O_widened (hr.mono (by decide)) (by rfl) (pa_cons (pv 0) pa_nil)) pe_str))
      (pss_cons (ps_set (i := 2) sc_levelled.nd rfl (.inr rfl) (pe_callBK (cr_minD rfl) (by rfl) m_min (by decide +kernel) (pa_cons (pe_lc (own := [("line", 3)]) (g := gName 3) (by rfl) sc_levelled.nd (pi_list (pv 1)) (blkOk_by (own := [("line", 3)]) (N := ["text", "lines", "least", "line"]) (sc := defScope s_levelled) (by decide +kernel)) (fun _ _ _ _ _ => (pg_name (i := 3) sc_levelled.nd rfl (.inl rfl))) (fun _ _ _ _ _ => (pts_one (pt_not (pt_val (pe_own O_is_blank (hr.mono (by decide)) (by rfl) (pa_cons (pv 3) pa_nil)))))) (fun _ _ _ _ _ => (pe_own O_indent_of (hr.mono (by decide)) (by rfl) (pa_cons (pv 3) pa_nil)))) pa_nil) (pk_cons pe_int pk_nil)))
      (pss_one (ps_ret (pe_m1 PySem.F.slot_str_join PySem.F.type_str_join mt_join pe_str (pe_lc (own := [("line", 3)]) (g := gName 3) (tt := tYes) (by rfl) sc_levelled.nd (pi_list (pv 1)) (blkOk_by (own := [("line", 3)]) (N := ["text", "lines", "least", "line"]) (sc := defScope s_levelled) (by decide +kernel)) (fun _ _ _ _ _ => (pg_name (i := 3) sc_levelled.nd rfl (.inl rfl))) (fun _ _ _ _ _ => pts_nil) (fun _ _ _ _ _ => (pe_slice sl_str (pv 3) (po_some (pv 2)) po_none)))))))), ?_⟩
    have eE : tl (SX.S (Mun.expT 8 0 (tl x))) = joinL [10] (ls.map (Mun.expT 8 0)) := by
      rw [← exp_join ls hc, ← ex]
    have lE := (Mun.exp_len (n := 8) (by decide) (tl x) 0).2
    have hW : ls.map (Mun.expT 8 0) ≠ [] := fun z => hn (List.map_eq_nil_iff.mp z)
    have h10 : ∀ l ∈ ls.map (Mun.expT 8 0), (10 : Nat) ∉ l := fun l hl => by
      obtain ⟨l', h', rfl⟩ := List.mem_map.mp hl
      exact exp_no 8 0 (by decide) fun z => (hc l' h' 10 z).1 rfl
    have h9 : ∀ l ∈ ls.map (Mun.expT 8 0), ∀ c ∈ l, c ≠ 9 := fun l hl => by
      obtain ⟨l', h', rfl⟩ := List.mem_map.mp hl
      exact exp_no9 8 0 l'
    have eS := split_join eE hW h10
    have pj := join_parts (ls.map (Mun.expT 8 0))
    rw [← eE] at pj
    have lE2 : (tl (SX.S (Mun.expT 8 0 (tl x)))).length ≤ 80000 := by
      show (Mun.expT 8 0 (tl x)).length ≤ 80000
      omega
    generalize ls.map (Mun.expT 8 0) = W at *
    refine ⟨.str x, rfl, x, rfl, hx, ⟨_, rfl⟩, _, "\n", rfl, rfl, by decide +kernel, ?_, fun p np => ?_⟩
    · rw [len_tl]
      exact line_of (by omega)
    rw [eS]
    have sp := same_new (o := .lst ((W.map mk).map V.str)) np
    refine ⟨.ref p, rfl, p, rfl, ⟨_, SqL.of upd_same⟩, fun L nL => lc_list (K := K) (a := p) (xs := (W.map mk).map V.str) (fun i H2 => H2 L = some (.lst (natV (leads (W.take i)))) ∧ Same (upd H p (.lst ((W.map mk).map V.str))) H2) ⟨upd_same, same_new nL⟩ (fun i H2 _ h2 => SqL.of (h2.2 _ _ upd_same)) ?_ ?_⟩
    · rintro i y H2 hi ⟨eL, s2⟩
      obtain ⟨z, rfl, hz⟩ := str_at hi
      rw [List.getElem?_map] at hz
      obtain ⟨l, hl, rfl⟩ := Option.map_eq_some_iff.mp hz
      have hm := List.mem_of_getElem? hl
      have ll := pj.2 l hm
      have lw : W.length ≤ 80001 := by omega
      have hi2 : i < W.length := (List.getElem?_eq_some_iff.mp hl).1
      have lm : (mk l).length ≤ 1000000 := by rw [mk_len]; omega
      refine ⟨rfl, .str (mk l), rfl, mk l, rfl, lm, _, rfl, ?_⟩
      rw [lead_take W hl, show isBlank (tl (mk l)) = spaces l from nine_spaces (h9 l hm)]
      show (if (!spaces l) = true then _ else _)
      cases spaces l with
      | true =>
        refine iteF ⟨?_, s2⟩
        show H2 L = some (.lst (natV (leads (W.take i) ++ [])))
        rw [List.append_nil]
        exact eL
      | false =>
        have l3 := leads_len (W.take i)
        rw [List.length_take] at l3
        refine iteT ⟨.str (mk l), rfl, mk l, rfl, lm, _, eL, ?_, ?_, fun b o e => ?_⟩
        · unfold natV
          rw [List.length_map, List.length_map]
          exact Nat.lt_of_le_of_lt (show (leads (W.take i)).length ≤ 80001 by omega) (by decide)
        · rw [upd_same]
          show some (HO.lst (natV (leads (W.take i)) ++ [.int (lead l : Nat)])) = some (.lst (natV (leads (W.take i) ++ [lead l])))
          rw [natV_app]
          rfl
        · rw [upd_ne (ne_of_none e nL)]
          exact s2 b o e
    · rintro H2 ⟨eL, s2⟩
      rw [List.length_map, List.length_map, List.take_length] at eL
      refine ⟨L, (leads W).map (fun n : Nat => (n : Int)), 0, rfl, rfl, SqL.of eL, fun m hm => ?_⟩
      have em : m = (leastN (leads W) : Nat) := by
        rcases hm with ⟨e, rfl⟩ | ⟨h1, h2⟩
        · rw [List.map_eq_nil_iff.mp e]
          rfl
        · exact leastN_int h1 h2
      subst em
      generalize em : leastN (leads W) = m
      refine ⟨⟨_, rfl⟩, .ref p, rfl, p, rfl, ⟨_, SqL.of (s2 _ _ upd_same)⟩, fun M nM => lc_list (K := K) (a := p) (xs := (W.map mk).map V.str) (fun i H3 => H3 M = some (.lst (((W.take i).map fun l => mk (l.drop m)).map V.str)) ∧ Same H2 H3) ⟨upd_same, same_new nM⟩ (fun i H3 _ h3 => SqL.of (h3.2 _ _ (s2 _ _ upd_same))) ?_ ?_⟩
      · rintro i y H3 hi ⟨eM, s3⟩
        obtain ⟨z, rfl, hz⟩ := str_at hi
        rw [List.getElem?_map] at hz
        obtain ⟨l, hl, rfl⟩ := Option.map_eq_some_iff.mp hz
        have ll := pj.2 l (List.mem_of_getElem? hl)
        have lm : (mk l).length ≤ 1000000 := by rw [mk_len]; omega
        have hi2 : i < W.length := (List.getElem?_eq_some_iff.mp hl).1
        refine ⟨rfl, ?_⟩
        unfold tYes
        show ite (true = true) _ _
        rw [if_pos rfl]
        refine ⟨.str (mk l), rfl, .int (m : Nat), rfl, m, rfl, mk l, rfl, line_of lm, _, eM, ?_, ?_, fun b o e => ?_⟩
        · rw [List.length_map, List.length_map, List.length_take]
          exact Nat.lt_of_le_of_lt (show min i W.length ≤ 80001 by omega) (by decide)
        · rw [upd_same, List.take_add_one, hl, List.map_append, List.map_append]
          refine congrArg (fun v => some (HO.lst (((W.take i).map fun l => mk (l.drop m)).map V.str ++ [v]))) (congrArg V.str (ext_tl ?_))
          rw [cutS_from]
          rfl
        · rw [upd_ne (ne_of_none e nM)]
          exact s3 b o e
      · rintro H3 ⟨eM, s3⟩
        rw [List.length_map, List.length_map, List.take_length] at eM
        have sl := lines_sum hW m
        rw [← eE] at sl
        refine ⟨"\n", M, _, rfl, rfl, .inl (SqL.of eM), ?_, ?_⟩
        · rw [List.length_map]
          have e1 : ("\n" : Str).length = 1 := rfl
          rw [e1, Nat.mul_one]
          exact Nat.le_trans sl (by omega)
        · rw [← em, join_lev]
          exact k _ (sp.trans (s2.trans s3))
theorem wide_mono : ∀ (σ : L2.St) (H : Hp) (Q Q' : Bool → Hp → Prop), (∀ (b : Bool) (H1 : Hp), Q b H1 → Q' b H1) →
    tAnd (tTest (tOp rEq (tVar 2) (tC (V.str "\t")))) (tTest (tOp rNe (tOp (rI CMul fun i j => V.int (i * j)) (tOp (rI CDivN fun i j => V.int (i.fdiv j)) (tCB (fun xs H Q => ∃ z, xs = [V.str z] ∧ z.length ≤ sizeLine ∧ Q (V.int ↑z.length) H) (tCons (tVar 1) tNil)) (tC (V.int 8))) (tC (V.int 8)))
      (tCB (fun xs H Q => ∃ z, xs = [V.str z] ∧ z.length ≤ sizeLine ∧ Q (V.int ↑z.length) H) (tCons (tVar 1) tNil)))) σ H Q →
    tAnd (tTest (tOp rEq (tVar 2) (tC (V.str "\t")))) (tTest (tOp rNe (tOp (rI CMul fun i j => V.int (i * j)) (tOp (rI CDivN fun i j => V.int (i.fdiv j)) (tCB (fun xs H Q => ∃ z, xs = [V.str z] ∧ z.length ≤ sizeLine ∧ Q (V.int ↑z.length) H) (tCons (tVar 1) tNil)) (tC (V.int 8))) (tC (V.int 8)))
      (tCB (fun xs H Q => ∃ z, xs = [V.str z] ∧ z.length ≤ sizeLine ∧ Q (V.int ↑z.length) H) (tCons (tVar 1) tNil)))) σ H Q' := by
  rintro σ H Q Q' i ⟨v, e1, sc, b, e2, q⟩
  refine ⟨v, e1, sc, b, e2, ?_⟩
  cases b with
  | false => exact i _ _ q
  | true =>
    obtain ⟨v1, e1, z1, e2, l1, i1, j1, e3, e4, c1, i2, j2, e5, e6, c2, v2, e7, z2, e8, l2, sc, b, e9, q⟩ := q
    exact ⟨v1, e1, z1, e2, l1, i1, j1, e3, e4, c1, i2, j2, e5, e6, c2, v2, e7, z2, e8, l2, sc, b, e9, i _ _ q⟩
/-! ### the law -/
def sp_law_text : Sp := fun vs H Q _ => ∃ (D A B : Addr) (n : Int) (m : Nat) (x : Str), vs = [.ref D, .int (m : Int), .str x] ∧ Drw H D A B n ∧ n < 900000 ∧ m ≤ 1000 ∧ 1 ≤ x.length ∧ x.length ≤ 1000 ∧
  ∀ (H' : Hp) (r : Str) (n' : Int), Drw H' D A B n' → n' ≤ n + 1 + m → Kept D A H H' → (∀ c ∈ tl r, c ∈ tl x) → r.length ≤ m → Q (.str r) H'
theorem ok_law_text {f : Addr} {fd : FuncData} {dvs : List V} (F : Fn K "_law_text" s_law_text dvs f fd) (O_law_take : Own P w K mg base "_law_take" 2 ["draws", "size"] [] (sp_law_take)) (m_len : mg "len" = none) (m_range : mg "range" = none) : FnOk P w K mg base CX0 3 f fd ["draws", "most", "signs"] (sp_law_text) := by
  refine Fn.okN F sc_law_text (fun vs H Q E h => ?_) (fun cdv A outer s H vs Q E hr h => ?_)
  · obtain ⟨_, _, _, _, _, _, rfl, _⟩ := h
    rfl
  · obtain ⟨D, A1, B, n, m, x, rfl, dr, hn, hm, hx1, hx, k⟩ := h
    refine ⟨_, (pss_one (ps_ret (pe_m1 PySem.F.slot_str_join PySem.F.type_str_join mt_join pe_str (pe_lc (own := [("k", 3)]) (g := gName 3) (tt := tYes) (by rfl) sc_law_text.nd (pi_range1 rfl m_range (pa_cons (pe_own O_law_take (hr.mono (by decide)) (by rfl) (pa_cons (pv 0) (pa_cons (pe_op op_add (pv 1) pe_int) pa_nil))) pa_nil)) (blkOk_by (own := [("k", 3)]) (N := ["draws", "most", "signs", "k"]) (sc := defScope s_law_text) (by decide +kernel)) (fun _ _ _ _ _ => (pg_name (i := 3) sc_law_text.nd rfl (.inl rfl))) (fun _ _ _ _ _ => pts_nil) (fun _ _ _ _ _ => (pe_ix ix_str (pv 2) (pe_own O_law_take (hr.mono (by decide)) (by rfl) (pa_cons (pv 0) (pa_cons (pe_callB call_len_str (by rfl) m_len PySem.boot_len (pa_cons (pv 2) pa_nil)) pa_nil))) (fun _ _ => rfl))))))), ?_⟩
    have hd : (tl x).length = x.length := (len_tl x).symm
    refine ⟨⟨_, rfl⟩, .ref D, rfl, .int (m : Int), rfl, _, _, rfl, rfl, D, A1, B, n, _, rfl, dr, by omega, by omega, by omega, fun r H1 r0 r1 dr1 k1 => ?_⟩
    refine ⟨r, rfl, by omega, by omega, fun L nL => lc_range (lo := 0) (n := r.toNat) (fun i H2 => ∃ (ws : List Str) (q : Int), ws.length = i ∧ (∀ w ∈ ws, w.length ≤ 1) ∧ (∀ w ∈ ws, ∀ c ∈ tl w, c ∈ tl x) ∧ H2 L = some (.lst (ws.map V.str)) ∧ Drw H2 D A1 B q ∧ q ≤ n + 1 + i ∧ Kept D A1 H1 H2) ⟨[], n + 1, rfl, (by intro w h; cases h), (by intro w h; cases h), upd_same, dr1.new nL, by omega, Kept.refl.upd nL⟩ ?_ ?_⟩
    · rintro j H2 hj ⟨ws, q, lw, hw, hx2, eL, dr2, hq, k2⟩
      obtain ⟨⟨_, eD⟩, ⟨_, eA⟩, ⟨_, eB⟩⟩ := dr1.tracked
      refine ⟨rfl, ?_⟩
      unfold tYes
      show ite (true = true) _ _
      rw [if_pos rfl]
      refine ⟨.str x, rfl, .ref D, rfl, .str x, rfl, x, rfl, line_of (by omega), D, A1, B, q, _, rfl, dr2, by omega, by omega, by omega, fun u H3 u0 u1 dr3 k3 => ?_⟩
      obtain ⟨v, rfl⟩ : ∃ v : Nat, u = (v : Int) := ⟨_, (Int.toNat_of_nonneg u0).symm⟩
      have hv : v < (tl x).length := by omega
      have LD : L ≠ D := (ne_of_none eD nL).symm
      have LA : L ≠ A1 := (ne_of_none eA nL).symm
      have LB : L ≠ B := (ne_of_none eB nL).symm
      refine ⟨x, _, (tl x)[v], rfl, rfl, line_of (by omega), atI_nat (List.getElem?_eq_getElem hv), ws.map V.str, k3 _ _ eL LD LA, by rw [List.length_map]; exact Nat.lt_of_le_of_lt (show ws.length ≤ 1000 by omega) (by decide), ws ++ [⟨#[(tl x)[v]]⟩], q + 1, by rw [List.length_append, lw]; rfl, fun y hy => ?_, fun y hy => ?_, ?_, dr3.upd LD LA LB, by omega, (k2.trans k3).upd nL⟩
      · rcases List.mem_append.mp hy with hy | hy
        · exact hw y hy
        · rw [List.mem_singleton.mp hy]
          exact Nat.le_refl _
      · rcases List.mem_append.mp hy with hy | hy
        · exact hx2 y hy
        · rw [List.mem_singleton.mp hy]
          intro c hc
          rw [List.mem_singleton.mp (show c ∈ [(tl x)[v]] from hc)]
          exact List.getElem_mem hv
      · rw [upd_same, List.map_append]
        rfl
    · rintro H2 ⟨ws, q, lw, hw, hx2, eL, dr2, hq, k2⟩
      have e0 : ("" : Str).length = 0 := rfl
      have e1 : tl ("" : Str) = [] := by decide +kernel
      have sl := sum_len 1 ws hw
      have lj := len_join "" 1 ws hw
      rw [e0] at lj
      refine ⟨"", L, ws, rfl, rfl, .inl (SqL.of eL), by rw [e0]; omega, ?_⟩
      refine k _ _ q dr2 (by omega) (k1.trans k2) (fun c hc => ?_) (by omega)
      rw [join_eq, tl_join, e1] at hc
      obtain ⟨u, hu, hcu⟩ := mem_join0 _ hc
      obtain ⟨s', hs', rfl⟩ := List.mem_map.mp hu
      exact hx2 s' hs' c hcu
def sp_law_wide : Sp := fun vs H Q _ => ∃ (x : Str), vs = [.str x] ∧ x.length ≤ 10000 ∧ (∀ c ∈ tl x, c ≠ 10 ∧ c ≠ 13) ∧ Q (.str (mk (Mun.expT 8 0 (tl x)))) H
theorem ok_law_wide {f : Addr} {fd : FuncData} {dvs : List V} (F : Fn K "_law_wide" s_law_wide dvs f fd) (m_len : mg "len" = none) : FnOk P w K mg base CX0 1 f fd ["line"] (sp_law_wide) := by
  refine Fn.okN F sc_law_wide (fun vs H Q E h => ?_) (fun cdv A outer s H vs Q E hr h => ?_)
  · obtain ⟨_, rfl, _⟩ := h
    rfl
  · obtain ⟨x, rfl, hx, hc, k⟩ := h
    refine ⟨_, (pss_cons (ps_set (i := 1) sc_law_wide.nd rfl (.inl rfl) pe_str)
      (pss_cons (ps_for PassesOwn.never rfl (pi_str (pv 0)) (pg_name (i := 2) sc_law_wide.nd rfl (.inl rfl))
          (pss_cut (ps_set (i := 1) sc_law_wide.nd rfl (.inl rfl) (pe_op op_add_str (pv 1) (pe_ifExp (pt_cmpR op_ne (pv 2) pe_str (nomark _)) (pv 2) pe_str)))
            (pss_one (ps_while PassesOwn.never (PW.pt (pw_and (pt_cmpR op_eq (pv 2) pe_str (nomark _)) (pw_and1 (pt_cmpR op_ne (pe_op op_mul (pe_op op_fdivN (pe_callB call_len_str (by rfl) m_len PySem.boot_len (pa_cons (pv 1) pa_nil)) pe_int) pe_int) (pe_callB call_len_str (by rfl) m_len PySem.boot_len (pa_cons (pv 1) pa_nil)) (nomark _)))))
                (pss_one (ps_set (i := 1) sc_law_wide.nd rfl (.inl rfl) (pe_op op_add_str (pv 1) pe_str)))))))
      (pss_one (ps_ret (pv 1))))), ?_⟩
    refine ⟨.str x, rfl, x, rfl, for_str (fun i σ H1 => H1 = H ∧ ∃ v2, σ = [some (.str x), some (.str (mk (((tl x).take i).foldl stW []))), v2]) ⟨rfl, _, rfl⟩ ?_ ?_⟩
    · rintro j c σ H1 hj ⟨rfl, v2, rfl⟩
      have et : ((tl x).take (j + 1)).foldl stW [] = stW (((tl x).take j).foldl stW []) c := by
        rw [List.take_add_one, hj, List.foldl_append]
        rfl
      rw [et]
      have hf := stW_all ((tl x).take j) [] fun c hm => hc c (List.mem_of_mem_take hm)
      have lf : (((tl x).take j).foldl stW []).length ≤ 80000 := by
        rw [hf, List.nil_append]
        have a := (Mun.exp_len (n := 8) (by decide) ((tl x).take j) 0).2
        have b : ((tl x).take j).length ≤ (tl x).length := List.length_take_le' ..
        rw [← len_tl] at b
        show (Mun.expT 8 0 ((tl x).take j)).length ≤ 80000
        omega
      generalize ((tl x).take j).foldl stW [] = f at lf
      have lm := mk_len f
      have lt : ("\t" : Str).length = 1 := rfl
      have ls : (" " : Str).length = 1 := rfl
      refine ⟨fun σ H => H = H1 ∧ σ = [some (.str x), some (.str (mk (f ++ [if c = 9 then 32 else c]))), some (.str ⟨#[c]⟩)], ?_, ?_⟩
      · refine ⟨.str (mk f), rfl, .str ⟨#[c]⟩, rfl, rfl, _, rfl, ?_⟩
        rw [tab_dec]
        by_cases e9 : c = 9
        · rw [decide_eq_true e9, if_pos e9]
          refine iteF ⟨_, _, rfl, rfl, line_of (by rw [lm, ls]; omega), rfl, ?_⟩
          rw [show mk (f ++ [32]) = mk f ++ " " from ext_tl (by rw [tl_append]; rfl)]
          rfl
        · rw [decide_eq_false e9, if_neg e9]
          refine iteT ⟨.str ⟨#[c]⟩, rfl, _, _, rfl, rfl, line_of (by rw [lm, len_one]; omega), rfl, ?_⟩
          rw [show mk (f ++ [c]) = mk f ++ ⟨#[c]⟩ from ext_tl (by rw [tl_append]; rfl)]
          rfl
      rintro σ H ⟨rfl, rfl⟩
      by_cases e9 : c = 9
      · subst e9
        rw [if_pos rfl, stW, if_pos rfl]
        refine while_by (fun σ H4 => ∃ q : Nat, σ = [some (.str x), some (.str (mk (f ++ List.replicate q 32))), some (.str ⟨#[9]⟩)] ∧ H4 = H ∧ 1 ≤ q ∧ q ≤ 8 - f.length % 8) (fun σ _ => match σ with | [_, some (.str z), _] => f.length + 8 - z.length | _ => 0) ⟨1, rfl, rfl, by decide, by omega⟩ ?_ ?_
        · rintro σ H4 ⟨q, rfl, rfl, q1, q2⟩
          have lz : (mk (f ++ List.replicate q 32)).length = f.length + q := by rw [mk_len, List.length_append, List.length_replicate]
          refine ⟨.str ⟨#[9]⟩, rfl, rfl, _, rfl, ?_⟩
          rw [tab_dec, decide_eq_true rfl]
          refine iteT ⟨.str _, rfl, _, rfl, line_of (by rw [lz]; omega), _, 8, rfl, rfl, ⟨by decide, by decide⟩, _, 8, rfl, rfl, .inr ⟨by decide, by decide⟩, .str _, rfl, _, rfl, line_of (by rw [lz]; omega), rfl, _, rfl, ?_⟩
          rw [lz, dec_int, Int.fdiv_eq_ediv_of_nonneg _ (by decide)]
          by_cases hq : q = 8 - f.length % 8
          · rw [show (((f.length + q : Nat) : Int) / 8 * 8 == ((f.length + q : Nat) : Int)) = true by rw [beq_iff_eq]; omega]
            refine iteF ⟨rfl, some (.str ⟨#[9]⟩), ?_⟩
            rw [← hq]
          · rw [show (((f.length + q : Nat) : Int) / 8 * 8 == ((f.length + q : Nat) : Int)) = false by rw [beq_eq_false_iff_ne]; omega]
            refine iteT ⟨.str _, rfl, _, _, rfl, rfl, line_of (by rw [lz, ls]; omega), ⟨q + 1, ?_, rfl, by omega, by omega⟩, ?_⟩
            · rw [show mk (f ++ List.replicate (q + 1) 32) = mk (f ++ List.replicate q 32) ++ " " from ext_tl (by rw [tl_append]; show f ++ List.replicate (q + 1) 32 = (f ++ List.replicate q 32) ++ [32]; rw [List.replicate_succ', List.append_assoc])]
              rfl
            · show f.length + 8 - (mk (f ++ List.replicate q 32) ++ " ").length < f.length + 8 - (mk (f ++ List.replicate q 32)).length
              rw [app_len, lz, ls]
              omega
        · exact wide_mono
      · rw [if_neg e9, stW, if_neg e9]
        refine while_by (fun σ H4 => σ = [some (.str x), some (.str (mk (f ++ [c]))), some (.str ⟨#[c]⟩)] ∧ H4 = H) (fun _ _ => 0) ⟨rfl, rfl⟩ ?_ ?_
        · rintro σ H4 ⟨rfl, rfl⟩
          refine ⟨.str ⟨#[c]⟩, rfl, rfl, _, rfl, ?_⟩
          rw [tab_dec, decide_eq_false e9]
          exact iteF ⟨rfl, _, rfl⟩
        · exact wide_mono
    · rintro σ H1 ⟨rfl, v2, rfl⟩
      rw [List.take_length, stW_all _ _ hc]
      exact ⟨_, rfl, k⟩
def sp_law (K : PySem.W.Frag) : Sp := fun vs H Q _ => ∃ (a : Addr) (ns : List Int), vs = [.ref a] ∧ SqL K H a (ns.map V.int) ∧ ns.length ≤ 63 ∧ ∀ H', Q (.bl true) H'
def menuL : List V := [.str "", .str "a", .str "b\tc", .str "\td ", .str "seven77\te", .str "eight888\tf\t"]
def lineOk (l : List Nat) : Prop := ∀ c ∈ l, c ≠ 10 ∧ c ≠ 13
theorem menuL_str {i : Nat} {v : V} (h : menuL[i]? = some v) : ∃ y : Str, v = .str y ∧ y.length ≤ 12 ∧ (∀ c ∈ tl y, c ≠ 10 ∧ c ≠ 13) := by
  have key : ∀ v ∈ menuL, ∃ y : Str, v = .str y ∧ y.length ≤ 12 ∧ (∀ c ∈ tl y, c ≠ 10 ∧ c ≠ 13) := by
    intro v hv
    simp only [menuL, List.mem_cons, List.not_mem_nil, or_false] at hv
    rcases hv with rfl | rfl | rfl | rfl | rfl | rfl <;> exact ⟨_, rfl, by decide +kernel, by decide +kernel⟩
  exact key v (List.mem_of_getElem? h)
theorem ok_law {f : Addr} {fd : FuncData} {dvs : List V} (F : Fn K "law" s_law dvs f fd) (O_law_draws : Own P w K mg base "_law_draws" 1 ["script"] [] (sp_law_draws K)) (O_law_take : Own P w K mg base "_law_take" 2 ["draws", "size"] [] (sp_law_take)) (O_law_text : Own P w K mg base "_law_text" 3 ["draws", "most", "signs"] [] (sp_law_text)) (O_law_pick : Own P w K mg base "_law_pick" 3 ["draws", "things"] [] (sp_law_pick)) (O_law_wide : Own P w K mg base "_law_wide" 1 ["line"] [] (sp_law_wide)) (O_levelled : Own P w K mg base "levelled" 2 ["text"] [] (sp_levelled)) (m_min : mg "min" = none) (m_range : mg "range" = none) : FnOk P w K mg base CX0 4 f fd ["script"] (sp_law K) := by
  refine Fn.okN F sc_law (fun vs H Q E h => ?_) (fun cdv A outer s H vs Q E hr h => ?_)
  · obtain ⟨_, _, rfl, _⟩ := h
    rfl
  · obtain ⟨a, ns, rfl, hS, hlen, k⟩ := h
    refine ⟨_, (pss_cons (ps_set (i := 1) sc_law.nd rfl (.inl rfl) (pe_own O_law_draws (hr.mono (by decide)) (by rfl) (pa_cons (pv 0) pa_nil)))
      (pss_cons (ps_for PassesOwn.never rfl (pi_range1 rfl m_range (pa_cons pe_int pa_nil)) (pg_name (i := 2) sc_law.nd rfl (.inl rfl))
          (pss_cons (ps_set (i := 3) sc_law.nd rfl (.inl rfl) (pe_lst pa_nil))
            (pss_cons (ps_for PassesOwn.never rfl (pi_range1 rfl m_range (pa_cons (pe_own O_law_take (hr.mono (by decide)) (by rfl) (pa_cons (pv 1) (pa_cons pe_int pa_nil))) pa_nil)) (pg_name (i := 4) sc_law.nd rfl (.inl rfl))
                (pss_cons (ps_set (i := 5) sc_law.nd rfl (.inl rfl) (pe_own O_law_text (hr.mono (by decide)) (by rfl) (pa_cons (pv 1) (pa_cons (pe_ix ix_list (pe_lst (pa_cons pe_int (pa_cons pe_int (pa_cons pe_int pa_nil)))) (pe_own O_law_take (hr.mono (by decide)) (by rfl) (pa_cons (pv 1) (pa_cons pe_int pa_nil))) (fun _ _ => rfl)) (pa_cons pe_str pa_nil)))))
                  (pss_one (ps_expr (pe_bm PySem.F.plainAttrs_list PySem.F.slot_list_append PySem.F.type_list_append mt_append (pv 3) (pa_cons (pe_op op_add_str (pv 5) (pe_own O_law_pick (hr.mono (by decide)) (by rfl) (pa_cons (pv 1) (pa_cons (pe_lst (pa_cons pe_str (pa_cons pe_str (pa_cons pe_str (pa_cons pe_str (pa_cons pe_str (pa_cons pe_str pa_nil))))))) pa_nil)))) pa_nil))))))
            (pss_cons (ps_set (i := 6) sc_law.nd rfl (.inl rfl) (pe_m1 PySem.F.slot_str_join PySem.F.type_str_join mt_join pe_str (pv 3)))
            (pss_cons (ps_setLc (i := 7) (own := [("line", 11)]) (g := gName 11) (tt := tYes) (by rfl) sc_law.nd rfl rfl (sw_true rfl rfl rfl (by decide +kernel)) (pi_list (pe_m1 PySem.F.slot_str_split PySem.F.type_str_split mt_split (pv 6) pe_str)) (blkOk_by (own := [("line", 11)]) (N := ["script", "draws", "turn", "lines", "k", "ahead", "text", "wide", "indents", "least", "due", "line", "sign"]) (sc := defScope s_law) (by decide +kernel)) (fun _ _ _ _ _ => (pg_name (i := 11) sc_law.nd rfl (.inl rfl))) (fun _ _ _ _ _ => pts_nil) (fun _ _ _ _ _ => (pe_own O_law_wide (hr.mono (by decide)) (by rfl) (pa_cons (pv 11) pa_nil))))
            (pss_cons (ps_setLc (i := 8) (own := [("line", 11)]) (g := gName 11) (by rfl) sc_law.nd rfl rfl (sw_true rfl rfl rfl (by decide +kernel)) (pi_list (pv 7)) (blkOk_by (own := [("line", 11)]) (N := ["script", "draws", "turn", "lines", "k", "ahead", "text", "wide", "indents", "least", "due", "line", "sign"]) (sc := defScope s_law) (by decide +kernel)) (fun _ _ _ _ _ => (pg_name (i := 11) sc_law.nd rfl (.inl rfl))) (fun _ _ _ _ _ => (pts_one (pt_cmpR op_ne (pe_m1 PySem.F.slot_str_strip PySem.F.type_str_strip mt_stripChars (pv 11) pe_str) pe_str (nomark _)))) (fun _ _ _ _ _ => (pe_bmK (K' := K) rfl PySem.F.plainAttrs_list PySem.F.slot_list_index PySem.F.type_list_index (mt_indexK (K' := K) rfl) (pe_lc (own := [("sign", 12)]) (g := gName 12) (tt := tYes) (by rfl) sc_law.nd (pi_str (pv 11)) (blkOk_by (by kernel_rfl)) (fun _ _ _ _ _ => (pg_name (i := 12) sc_law.nd rfl (.inl rfl))) (fun _ _ _ _ _ => pts_nil) (fun _ _ _ _ _ => (pe_cmpR op_ne (pv 12) pe_str (nomark _)))) (pa_cons pe_bl pa_nil))))
            (pss_cut (ps_set (i := 9) sc_law.nd rfl (.inr rfl) (pe_ifExp (pt_cmpR (op_neD hr.units) (pv 8) (pe_lst pa_nil) (nomark _)) (pe_callB (cr_min rfl) (by rfl) m_min (by decide +kernel) (pa_cons (pv 8) pa_nil)) pe_int))
            (pss_cons (ps_set (i := 10) sc_law.nd rfl (.inl rfl) (pe_m1 PySem.F.slot_str_join PySem.F.type_str_join mt_join pe_str (pe_lc (own := [("line", 11)]) (g := gName 11) (tt := tYes) (by rfl) sc_law.nd (pi_list (pv 7)) (blkOk_by (own := [("line", 11)]) (N := ["script", "draws", "turn", "lines", "k", "ahead", "text", "wide", "indents", "least", "due", "line", "sign"]) (sc := defScope s_law) (by decide +kernel)) (fun _ _ _ _ _ => (pg_name (i := 11) sc_law.nd rfl (.inl rfl))) (fun _ _ _ _ _ => pts_nil) (fun _ _ _ _ _ => (pe_slice sl_str (pv 11) (po_some (pv 9)) po_none)))))
            (pss_one (ps_if (PW.pt (pw_or (pt_cmpR op_ne (pe_own O_levelled (hr.mono (by decide)) (by rfl) (pa_cons (pv 6) pa_nil)) (pv 10) (nomark _)) (pw_or1 (pt_cmpR op_ne (pe_own O_levelled (hr.mono (by decide)) (by rfl) (pa_cons (pv 10) pa_nil)) (pv 10) (nomark _)))))
                (pss_one (ps_ret pe_bl))
                pss_nil))))))))))
      (pss_one (ps_ret (pe_and (pe_cmpR op_eq (pe_own O_levelled (hr.mono (by decide)) (by rfl) (pa_cons pe_str pa_nil)) pe_str (nomark _)) (pe_one (pe_cmpR op_eq (pe_own O_levelled (hr.mono (by decide)) (by rfl) (pa_cons pe_str pa_nil)) (pe_op op_add_str (pe_op op_repS pe_str pe_int) pe_str) (nomark _)))))))), ?_⟩
    refine ⟨.ref a, rfl, a, ns, rfl, hS, hlen, fun H1 D A1 B s1 dr nD nA => ?_⟩
    refine ⟨10, rfl, by decide, by decide, for_range (n := 10) (fun i σ H2 => ∃ (n : Int) (v2 v3 v4 v5 v6 v7 v8 v9 v10 : Option V), σ = [some (.ref a), some (.ref D), v2, v3, v4, v5, v6, v7, v8, v9, v10, none, none] ∧ Drw H2 D A1 B n ∧ n ≤ 100 * i) ⟨0, _, _, _, _, _, _, _, _, _, rfl, dr, by omega⟩ ?_ ?_⟩
    · rintro i σ H2 hi ⟨n, v2, v3, v4, v5, v6, v7, v8, v9, v10, rfl, dr, hn⟩
      refine ⟨by show 0 ≤ sizeLine; decide, fun L nL => ?_⟩
      have dr2 := dr.new (o := .lst []) nL
      obtain ⟨⟨_, eD⟩, ⟨_, eA⟩, ⟨_, eB⟩⟩ := dr.tracked
      have LD : L ≠ D := (ne_of_none eD nL).symm
      have LA : L ≠ A1 := (ne_of_none eA nL).symm
      have LB : L ≠ B := (ne_of_none eB nL).symm
      refine ⟨.ref D, rfl, D, A1, B, n, 9, rfl, dr2, by omega, by decide, by decide, fun r H3 r0 r1 dr3 k3 => ?_⟩
      refine ⟨r, rfl, by omega, by omega, for_range (n := r.toNat) (fun j σ H4 => ∃ (m : Int) (ls : List (List Nat)) (v2 v4 v5 : Option V), σ = [some (.ref a), some (.ref D), v2, some (.ref L), v4, v5, v6, v7, v8, v9, v10, none, none] ∧ H4 L = some (.lst ((ls.map mk).map V.str)) ∧ ls.length = j ∧ (∀ l ∈ ls, lineOk l ∧ l.length ≤ 21) ∧ Drw H4 D A1 B m ∧ m ≤ n + 1 + 12 * j) ⟨n + 1, [], _, _, _, rfl, k3 _ _ upd_same LD LA, rfl, (by intro l h; cases h), dr3, by omega⟩ ?_ ?_⟩
      · rintro j σ H4 hj ⟨m, ls, w2, w4, w5, rfl, eL, ll, hl, dr4, hm⟩
        refine ⟨.ref D, rfl, by show 3 ≤ sizeLine; decide, fun M nM => ?_⟩
        have sM := same_new (o := .lst [.int 0, .int 3, .int 9]) nM
        obtain ⟨⟨_, eD⟩, ⟨_, eA⟩, _⟩ := dr4.tracked
        have MD : M ≠ D := (ne_of_none eD nM).symm
        have MA : M ≠ A1 := (ne_of_none eA nM).symm
        refine ⟨.ref D, rfl, D, A1, B, m, 3, rfl, dr4.new nM, by omega, by decide, by decide, fun u H5 u0 u1 dr5 k5 => ?_⟩
        have hu : ∃ mm : Nat, mm ≤ 9 ∧ atI [V.int 0, .int 3, .int 9] u = some (.int (mm : Int)) := by
          rcases (by omega : u = 0 ∨ u = 1 ∨ u = 2) with rfl | rfl | rfl
          · exact ⟨0, by decide, rfl⟩
          · exact ⟨3, by decide, rfl⟩
          · exact ⟨9, by decide, rfl⟩
        obtain ⟨mm, hmm, hat⟩ := hu
        refine ⟨M, _, u, _, rfl, rfl, SqL.of (k5 _ _ upd_same MD MA), hat, D, A1, B, m + 1, mm, "  \t", rfl, dr5, by omega, by omega, by decide, by decide, fun H6 z n' dr6 hn' k6 hz lz => ?_⟩
        have eL6 := k6 _ _ (k5 _ _ (sM _ _ eL) LD LA) LD LA
        have hzk : ∀ c ∈ tl z, c ≠ 10 ∧ c ≠ 13 := fun c hc => by
          have g : ∀ c ∈ tl ("  \t" : Str), c ≠ 10 ∧ c ≠ 13 := by decide +kernel
          exact g c (hz c hc)
        refine ⟨.ref L, rfl, .inl ⟨rfl, _, SqL.of eL6⟩, .str z, rfl, .ref D, rfl, by show 6 ≤ sizeLine; decide, fun M2 nM2 => ?_⟩
        have sM2 := same_new (o := .lst menuL) nM2
        obtain ⟨⟨_, eD⟩, ⟨_, eA⟩, _⟩ := dr6.tracked
        refine ⟨D, A1, B, M2, n', menuL, rfl, dr6.new nM2, by omega, .inl upd_same, (ne_of_none eD nM2).symm, (ne_of_none eA nM2).symm, by decide, by decide, fun q v H7 hq dr7 k7 => ?_⟩
        obtain ⟨y, rfl, ly, hy⟩ := menuL_str hq
        have eL7 := k7 _ _ (sM2 _ _ eL6) LD LA
        refine ⟨_, _, rfl, rfl, line_of (by omega), L, _, _, rfl, rfl, eL7, by rw [List.length_map, List.length_map]; exact Nat.lt_of_le_of_lt (show ls.length ≤ 1000 by omega) (by decide), n' + 1, ls ++ [tl z ++ tl y], _, _, _, rfl, ?_, by rw [List.length_append, ll]; rfl, fun l hl2 => ?_, dr7.upd LD LA LB, by omega⟩
        · rw [upd_same, List.map_append, List.map_append]
          refine congrArg (fun v => some (HO.lst ((ls.map mk).map V.str ++ [v]))) (congrArg V.str (ext_tl ?_))
          rw [tl_append]
          rfl
        · rcases List.mem_append.mp hl2 with h | h
          · exact hl l h
          · rw [List.mem_singleton.mp h]
            refine ⟨fun c hc => ?_, ?_⟩
            · rcases List.mem_append.mp hc with h | h
              · exact hzk c h
              · exact hy c h
            · rw [List.length_append, ← len_tl, ← len_tl]
              omega
      · rintro σ H4 ⟨m', ls, w2, w4, w5, rfl, eL, ll, hl, dr4, hm⟩
        obtain ⟨ls', hne, hj, hl', ll'⟩ : ∃ ls' : List (List Nat), ls' ≠ [] ∧ joinL [10] ls = joinL [10] ls' ∧ (∀ l ∈ ls', lineOk l ∧ l.length ≤ 21) ∧ ls'.length ≤ 9 := by
          cases ls with
          | nil => exact ⟨[[]], by simp, rfl, fun l h => by rw [List.mem_singleton.mp h]; exact ⟨fun c h => (by cases h), by decide⟩, by decide⟩
          | cons l r => exact ⟨l :: r, by simp, rfl, hl, by omega⟩
        have ej : Txt.join "\n" (ls.map mk) = mk (joinL [10] ls') := (join_mk [10] ls).trans (by rw [hj])
        have sl := sum_len 21 (ls.map mk) fun y hy => by
          obtain ⟨l, h, rfl⟩ := List.mem_map.mp hy
          rw [mk_len]
          exact (hl l h).2
        rw [List.length_map] at sl
        refine ⟨⟨_, rfl⟩, .ref L, rfl, "\n", L, ls.map mk, rfl, rfl, .inl (SqL.of eL), ?_, ?_⟩
        · rw [List.length_map]
          have e1 : ("\n" : Str).length = 1 := rfl
          rw [e1]
          omega
        rw [ej]
        have h10 : ∀ l ∈ ls', (10 : Nat) ∉ l := fun l h z => ((hl' l h).1 10 z).1 rfl
        have lx := nl_sum 21 ls' hne fun l h => (hl' l h).2
        refine ⟨.str (mk (joinL [10] ls')), rfl, ⟨_, rfl⟩, mk (joinL [10] ls'), "\n", rfl, rfl, by decide +kernel, by rw [mk_len]; exact line_of (by omega), fun p np => ?_⟩
        rw [split_join (x := mk (joinL [10] ls')) rfl hne h10]
        have sp := same_new (o := .lst ((ls'.map mk).map V.str)) np
        -- wide
        refine ⟨p, rfl, ⟨_, SqL.of upd_same⟩, fun N nN => lc_list (K := K) (a := p) (xs := (ls'.map mk).map V.str) (fun i H5 => H5 N = some (.lst ((((ls'.take i).map (Mun.expT 8 0)).map mk).map V.str)) ∧ Same (upd H4 p (.lst ((ls'.map mk).map V.str))) H5) ⟨upd_same, same_new nN⟩ (fun i H5 _ h => SqL.of (h.2 _ _ upd_same)) ?_ ?_⟩
        · rintro q y H5 hq ⟨eN, s5⟩
          obtain ⟨z, rfl, hz⟩ := str_at hq
          rw [List.getElem?_map] at hz
          obtain ⟨l, hl2, rfl⟩ := Option.map_eq_some_iff.mp hz
          have gl := hl' l (List.mem_of_getElem? hl2)
          have hq2 : q < ls'.length := (List.getElem?_eq_some_iff.mp hl2).1
          refine ⟨rfl, ?_⟩
          unfold tYes
          show ite (true = true) _ _
          rw [if_pos rfl]
          refine ⟨.str (mk l), rfl, mk l, rfl, by rw [mk_len]; omega, gl.1, _, eN, ?_, ?_, fun b o e => ?_⟩
          · rw [List.length_map, List.length_map, List.length_map, List.length_take]
            exact Nat.lt_of_le_of_lt (show min q ls'.length ≤ 1000 by omega) (by decide)
          · rw [upd_same, List.take_add_one, hl2, List.map_append, List.map_append, List.map_append]
            rfl
          · rw [upd_ne (ne_of_none e nN)]
            exact s5 b o e
        rintro H5 ⟨eN, s5⟩
        rw [List.length_map, List.length_map, List.take_length] at eN
        have hw9 : ∀ l ∈ ls'.map (Mun.expT 8 0), ∀ c ∈ l, c ≠ 9 := fun l h => by
          obtain ⟨l', h', rfl⟩ := List.mem_map.mp h
          exact exp_no9 8 0 l'
        have hwk : ∀ l ∈ ls'.map (Mun.expT 8 0), lineOk l ∧ l.length ≤ 168 := fun l h => by
          obtain ⟨l', h', rfl⟩ := List.mem_map.mp h
          have a := (Mun.exp_len (n := 8) (by decide) l' 0).2
          have g := hl' l' h'
          exact ⟨fun c hc => ⟨fun z => exp_no 8 0 (d := 10) (by decide) (fun m => (g.1 10 m).1 rfl) (z ▸ hc), fun z => exp_no 8 0 (d := 13) (by decide) (fun m => (g.1 13 m).2 rfl) (z ▸ hc)⟩, by omega⟩
        have hwn : ls'.map (Mun.expT 8 0) ≠ [] := fun z => hne (List.map_eq_nil_iff.mp z)
        have lw : (ls'.map (Mun.expT 8 0)).length ≤ 9 := by
          rw [List.length_map]
          exact ll'
        generalize hWW : ls'.map (Mun.expT 8 0) = W at *
        have s45 : Same H4 H5 := sp.trans s5
        -- indents
        refine ⟨.ref N, rfl, N, rfl, ⟨_, SqL.of eN⟩, fun I nI => lc_list (K := K) (a := N) (xs := (W.map mk).map V.str) (fun i H6 => H6 I = some (.lst (natV (leads (W.take i)))) ∧ Same H5 H6) ⟨upd_same, same_new nI⟩ (fun i H6 _ h => SqL.of (h.2 _ _ eN)) ?_ ?_⟩
        · rintro q y H6 hq ⟨eI, s6⟩
          obtain ⟨z, rfl, hz⟩ := str_at hq
          rw [List.getElem?_map] at hz
          obtain ⟨l, hl2, rfl⟩ := Option.map_eq_some_iff.mp hz
          have gl := hwk l (List.mem_of_getElem? hl2)
          have hq2 : q < W.length := (List.getElem?_eq_some_iff.mp hl2).1
          refine ⟨rfl, .str (mk l), rfl, ⟨_, rfl⟩, mk l, " ", rfl, rfl, by rw [mk_len]; exact line_of (by omega), rfl, _, rfl, ?_⟩
          rw [lead_take W hl2, strip_test, show spaces (tl (mk l)) = spaces l from rfl]
          cases hsp : spaces l with
          | true =>
            refine iteF ⟨?_, s6⟩
            show H6 I = some (.lst (natV (leads (W.take q) ++ [])))
            rw [List.append_nil]
            exact eI
          | false =>
            refine iteT ⟨.str (mk l), rfl, mk l, rfl, fun J nJ => lc_str (fun j H7 => H7 J = some (.lst ((l.take j).map fun c => V.bl (!(c == 32)))) ∧ Same H6 H7) ⟨upd_same, same_new nJ⟩ ?_ ?_⟩
            · rintro j c H7 hj ⟨eJ, s7⟩
              have hj' : l[j]? = some c := hj
              have hj2 : j < l.length := (List.getElem?_eq_some_iff.mp hj').1
              refine ⟨rfl, ?_⟩
              unfold tYes
              show ite (true = true) _ _
              rw [if_pos rfl]
              refine ⟨.str ⟨#[c]⟩, rfl, rfl, _, eJ, ?_, ?_, fun b o e => ?_⟩
              · rw [List.length_map, List.length_take]
                exact Nat.lt_of_le_of_lt (show min j l.length ≤ 1000 by omega) (by decide)
              · rw [upd_same, List.take_add_one, hj', List.map_append, sp_dec]
                rfl
              · rw [upd_ne (ne_of_none e nJ)]
                exact s7 b o e
            · rintro H7 ⟨eJ, s7⟩
              have eJ' : H7 J = some (.lst (l.map fun c => V.bl (!(c == 32)))) := by
                rw [eJ, show (tl (mk l)).length = l.length from rfl, List.take_length]
              obtain ⟨c, hc1, hc2, hc3⟩ := lead_at l hsp
              refine ⟨.inl ⟨rfl, _, SqL.of eJ'⟩, J, _, .bl true, lead l, .bl (!(c == 32)), rfl, rfl, SqL.of eJ', rfl, ?_, ?_, ?_, ?_, ?_⟩
              · refine List.all_eq_true.mpr fun v hv => ?_
                obtain ⟨d, _, rfl⟩ := List.mem_map.mp hv
                rfl
              · rw [List.getElem?_map, hc1]
                rfl
              · rw [hc2]
                rfl
              · intro m z' hm hz'
                rw [List.getElem?_map] at hz'
                obtain ⟨d, hd, rfl⟩ := Option.map_eq_some_iff.mp hz'
                rw [hc3 m d hm hd]
                rfl
              · have l3 := leads_len (W.take q)
                rw [List.length_take] at l3
                refine ⟨_, s7 _ _ eI, ?_, ?_, fun b o e => ?_⟩
                · unfold natV
                  rw [List.length_map, List.length_map]
                  exact Nat.lt_of_le_of_lt (show (leads (W.take q)).length ≤ 1000 by omega) (by decide)
                · rw [upd_same]
                  show some (HO.lst (natV (leads (W.take q)) ++ [.int (lead l : Nat)])) = some (.lst (natV (leads (W.take q) ++ [lead l])))
                  rw [natV_app]
                  rfl
                · rw [upd_ne (ne_of_none e nI)]
                  exact s7 _ _ (s6 b o e)
        rintro H6 ⟨eI, s6⟩
        rw [List.length_map, List.length_map, List.take_length] at eI
        refine ⟨fun σ H7 => σ = [some (.ref a), some (.ref D), w2, some (.ref L), w4, w5, some (.str (mk (joinL [10] ls'))), some (.ref N), some (.ref I), some (.int (leastN (leads W) : Nat)), v10, none, none] ∧ Same H6 H7, ?_, ?_⟩
        · refine ⟨.ref I, rfl, by show 0 ≤ sizeLine; decide, fun Z nZ => ?_⟩
          have sZ := same_new (o := .lst []) nZ
          refine ⟨_, _, .lst (SqL.of (sZ _ _ eI)) (dp_ints _), .lst (SqL.of upd_same) .nil, shaped_ints _, shaped_ints [], _, rfl, ?_⟩
          rw [eqv_nil]
          cases h : leads W with
          | nil => exact iteF ⟨rfl, sZ⟩
          | cons x r =>
            refine iteT ⟨.ref I, rfl, I, _, rfl, SqL.of (sZ _ _ eI), ?_, fun m hm hle => ⟨?_, sZ⟩⟩
            · rw [h]
              exact Nat.zero_lt_succ _
            · rw [← h, leastN_int hm hle]
              rfl
        rintro σ H7 ⟨rfl, s7⟩
        generalize em : leastN (leads W) = m
        have eN7 := s7 _ _ (s6 _ _ eN)
        -- due
        refine ⟨⟨_, rfl⟩, .ref N, rfl, N, rfl, ⟨_, SqL.of eN7⟩, fun M nM => lc_list (K := K) (a := N) (xs := (W.map mk).map V.str) (fun i H8 => H8 M = some (.lst (((W.take i).map fun l => mk (l.drop m)).map V.str)) ∧ Same H7 H8) ⟨upd_same, same_new nM⟩ (fun i H8 _ h => SqL.of (h.2 _ _ eN7)) ?_ ?_⟩
        · rintro q y H8 hq ⟨eM, s8⟩
          obtain ⟨z, rfl, hz⟩ := str_at hq
          rw [List.getElem?_map] at hz
          obtain ⟨l, hl2, rfl⟩ := Option.map_eq_some_iff.mp hz
          have gl := hwk l (List.mem_of_getElem? hl2)
          have hq2 : q < W.length := (List.getElem?_eq_some_iff.mp hl2).1
          refine ⟨rfl, ?_⟩
          unfold tYes
          show ite (true = true) _ _
          rw [if_pos rfl]
          refine ⟨.str (mk l), rfl, .int (m : Nat), rfl, m, rfl, mk l, rfl, by rw [mk_len]; exact line_of (by omega), _, eM, ?_, ?_, fun b o e => ?_⟩
          · rw [List.length_map, List.length_map, List.length_take]
            exact Nat.lt_of_le_of_lt (show min q W.length ≤ 80001 by omega) (by decide)
          · rw [upd_same, List.take_add_one, hl2, List.map_append, List.map_append]
            refine congrArg (fun v => some (HO.lst (((W.take q).map fun l => mk (l.drop m)).map V.str ++ [v]))) (congrArg V.str (ext_tl ?_))
            rw [cutS_from]
            rfl
          · rw [upd_ne (ne_of_none e nM)]
            exact s8 b o e
        rintro H8 ⟨eM, s8⟩
        rw [List.length_map, List.length_map, List.take_length] at eM
        have lW := nl_sum 168 W hwn fun l h => (hwk l h).2
        have sl := lines_sum hwn m
        have e1 : ("\n" : Str).length = 1 := rfl
        refine ⟨"\n", M, _, rfl, rfl, .inl (SqL.of eM), ?_, ?_⟩
        · rw [List.length_map, e1, Nat.mul_one]
          exact Nat.le_trans sl (by omega)
        rw [← em, join_lev]
        have hvk : ∀ l ∈ levW W, lineOk l ∧ l.length ≤ 168 := fun l h => by
          obtain ⟨l', h', rfl⟩ := List.mem_map.mp h
          have g := hwk l' h'
          exact ⟨fun c hc => g.1 c (List.mem_of_mem_drop hc), by rw [List.length_drop]; omega⟩
        have hv9 : (levW W).map (Mun.expT 8 0) = levW W := by
          refine (List.map_congr_left fun l h => ?_).trans (List.map_id _)
          obtain ⟨l', h', rfl⟩ := List.mem_map.mp h
          exact Mun.exp_none _ 0 fun c hc => hw9 l' h' c (List.mem_of_mem_drop hc)
        have hvn : levW W ≠ [] := fun z => hwn (List.map_eq_nil_iff.mp z)
        have lv : (levW W).length ≤ 9 := by
          unfold levW
          rw [List.length_map]
          exact lw
        have lV := nl_sum 168 (levW W) hvn fun l h => (hvk l h).2
        have tm : ∀ l, tl (mk l) = l := fun l => rfl
        refine ⟨.str (mk (joinL [10] ls')), rfl, mk (joinL [10] ls'), ls', rfl, rfl, hne, fun l h => (hl' l h).1, by rw [tm]; omega, fun H9 s9 => ⟨.str (mk (joinL [10] (levW W))), rfl, rfl, _, rfl, ?_⟩⟩
        rw [hWW, decide_eq_true (rfl : (V.str (mk (joinL [10] (levW W))) : V) = _)]
        refine iteF ⟨.str (mk (joinL [10] (levW W))), rfl, mk (joinL [10] (levW W)), levW W, rfl, rfl, hvn, fun l h => (hvk l h).1, by rw [tm]; omega, fun H10 s10 => ⟨.str (mk (joinL [10] (levW W))), rfl, rfl, _, rfl, ?_⟩⟩
        rw [hv9, levW_again, decide_eq_true (rfl : (V.str (mk (joinL [10] (levW W))) : V) = _)]
        exact iteF ⟨m', _, _, _, _, _, _, _, _, _, rfl, dr4.same (s45.trans (s6.trans (s7.trans (s8.trans (s9.trans s10))))), by omega⟩
    · rintro σ H2 ⟨n, v2, v3, v4, v5, v6, v7, v8, v9, v10, rfl, dr, hn⟩
      refine ⟨"", [[]], rfl, by decide +kernel, by simp, by simp, by decide +kernel, fun H3 s3 => ⟨rfl, _, rfl, ?_⟩⟩
      rw [decide_eq_true (congrArg V.str (by decide +kernel : mk (joinL [10] (levW ([[]].map (Mun.expT 8 0)))) = ("" : Str)))]
      refine iteT ⟨"\t\n", [[9], []], rfl, by decide +kernel, by simp, by simp, by decide +kernel, fun H4 s4 => ⟨" ", 8, rfl, rfl, by unfold MulOk; decide +kernel, _, _, rfl, rfl, line_of (by decide +kernel), rfl, ?_⟩⟩
      rw [decide_eq_true (congrArg V.str (by decide +kernel : mk (joinL [10] (levW ([[9], []].map (Mun.expT 8 0)))) = Txt.mul " " 8 ++ "\n"))]
      exact k _
end
set_option maxHeartbeats 0
theorem all_mk {l : PySem.W.OpenLaw} {w : World} {K : PySem.W.Frag} {h : Heap} {mg : Str → Option Value} {fa : Addr} {f0 : Addr} {od0 an0 : Option Addr} {sl0 : Array (Option Value)} {oc0 kV0 dc0 pm0 cd0 ct0 : Value}
    {f1 : Addr} {od1 an1 : Option Addr} {sl1 : Array (Option Value)} {oc1 kV1 dc1 pm1 cd1 ct1 : Value}
    {f2 : Addr} {od2 an2 : Option Addr} {sl2 : Array (Option Value)} {oc2 kV2 dc2 pm2 cd2 ct2 : Value}
    {f3 : Addr} {od3 an3 : Option Addr} {sl3 : Array (Option Value)} {oc3 kV3 dc3 pm3 cd3 ct3 : Value}
    {f4 : Addr} {od4 an4 : Option Addr} {sl4 : Array (Option Value)} {oc4 kV4 dc4 pm4 cd4 ct4 : Value}
    {f5 : Addr} {od5 an5 : Option Addr} {sl5 : Array (Option Value)} {oc5 kV5 dc5 pm5 cd5 ct5 : Value}
    {f6 : Addr} {od6 an6 : Option Addr} {sl6 : Array (Option Value)} {oc6 kV6 dc6 pm6 cd6 ct6 : Value}
    {f7 : Addr} {od7 an7 : Option Addr} {sl7 : Array (Option Value)} {oc7 kV7 dc7 pm7 cd7 ct7 : Value}
    {f8 : Addr} {od8 an8 : Option Addr} {sl8 : Array (Option Value)} {oc8 kV8 dc8 pm8 cd8 ct8 : Value}
    {f9 : Addr} {od9 an9 : Option Addr} {sl9 : Array (Option Value)} {oc9 kV9 dc9 pm9 cd9 ct9 : Value}
    {f10 : Addr} {od10 an10 : Option Addr} {sl10 : Array (Option Value)} {oc10 kV10 dc10 pm10 cd10 ct10 : Value}
    {t_BLANKS : Tok}
    {t_TAB : Tok} (X : K.In h) (G : h.Ns mainGlobals mg) (hfa : mg "law" = some (.ref fa))
    (a0 : PySem.W.nsIn K mainGlobals "indent_of" = some (some (.ref f0))) (l0 : K.lookup f0 = some ⟨oc0, od0, .func (PySem.W.fnOf "indent_of" "indent_of" (defArgs s_indent_of) (defBody s_indent_of) (defScope s_indent_of) .none kV0 dc0 pm0 an0 cd0 ct0), sl0⟩) (e0 : PySem.W.codeIn K cd0 "indent_of" = true) (k0 : PySem.W.keepIn K (.ref f0) = true)
    (a1 : PySem.W.nsIn K mainGlobals "is_blank" = some (some (.ref f1))) (l1 : K.lookup f1 = some ⟨oc1, od1, .func (PySem.W.fnOf "is_blank" "is_blank" (defArgs s_is_blank) (defBody s_is_blank) (defScope s_is_blank) .none kV1 dc1 pm1 an1 cd1 ct1), sl1⟩) (e1 : PySem.W.codeIn K cd1 "is_blank" = true) (k1 : PySem.W.keepIn K (.ref f1) = true)
    (a2 : PySem.W.nsIn K mainGlobals "widened" = some (some (.ref f2))) (l2 : K.lookup f2 = some ⟨oc2, od2, .func (PySem.W.fnOf "widened" "widened" (defArgs s_widened) (defBody s_widened) (defScope s_widened) .none kV2 dc2 pm2 an2 cd2 ct2), sl2⟩) (e2 : PySem.W.codeIn K cd2 "widened" = true) (k2 : PySem.W.keepIn K (.ref f2) = true)
    (a3 : PySem.W.nsIn K mainGlobals "levelled" = some (some (.ref f3))) (l3 : K.lookup f3 = some ⟨oc3, od3, .func (PySem.W.fnOf "levelled" "levelled" (defArgs s_levelled) (defBody s_levelled) (defScope s_levelled) .none kV3 dc3 pm3 an3 cd3 ct3), sl3⟩) (e3 : PySem.W.codeIn K cd3 "levelled" = true) (k3 : PySem.W.keepIn K (.ref f3) = true)
    (a4 : PySem.W.nsIn K mainGlobals "_law_draws" = some (some (.ref f4))) (l4 : K.lookup f4 = some ⟨oc4, od4, .func (PySem.W.fnOf "_law_draws" "_law_draws" (defArgs s_law_draws) (defBody s_law_draws) (defScope s_law_draws) .none kV4 dc4 pm4 an4 cd4 ct4), sl4⟩) (e4 : PySem.W.codeIn K cd4 "_law_draws" = true) (k4 : PySem.W.keepIn K (.ref f4) = true)
    (a5 : PySem.W.nsIn K mainGlobals "_law_mixed" = some (some (.ref f5))) (l5 : K.lookup f5 = some ⟨oc5, od5, .func (PySem.W.fnOf "_law_mixed" "_law_mixed" (defArgs s_law_mixed) (defBody s_law_mixed) (defScope s_law_mixed) .none kV5 dc5 pm5 an5 cd5 ct5), sl5⟩) (e5 : PySem.W.codeIn K cd5 "_law_mixed" = true) (k5 : PySem.W.keepIn K (.ref f5) = true)
    (a6 : PySem.W.nsIn K mainGlobals "_law_take" = some (some (.ref f6))) (l6 : K.lookup f6 = some ⟨oc6, od6, .func (PySem.W.fnOf "_law_take" "_law_take" (defArgs s_law_take) (defBody s_law_take) (defScope s_law_take) .none kV6 dc6 pm6 an6 cd6 ct6), sl6⟩) (e6 : PySem.W.codeIn K cd6 "_law_take" = true) (k6 : PySem.W.keepIn K (.ref f6) = true)
    (a7 : PySem.W.nsIn K mainGlobals "_law_pick" = some (some (.ref f7))) (l7 : K.lookup f7 = some ⟨oc7, od7, .func (PySem.W.fnOf "_law_pick" "_law_pick" (defArgs s_law_pick) (defBody s_law_pick) (defScope s_law_pick) .none kV7 dc7 pm7 an7 cd7 ct7), sl7⟩) (e7 : PySem.W.codeIn K cd7 "_law_pick" = true) (k7 : PySem.W.keepIn K (.ref f7) = true)
    (a8 : PySem.W.nsIn K mainGlobals "_law_text" = some (some (.ref f8))) (l8 : K.lookup f8 = some ⟨oc8, od8, .func (PySem.W.fnOf "_law_text" "_law_text" (defArgs s_law_text) (defBody s_law_text) (defScope s_law_text) .none kV8 dc8 pm8 an8 cd8 ct8), sl8⟩) (e8 : PySem.W.codeIn K cd8 "_law_text" = true) (k8 : PySem.W.keepIn K (.ref f8) = true)
    (a9 : PySem.W.nsIn K mainGlobals "_law_wide" = some (some (.ref f9))) (l9 : K.lookup f9 = some ⟨oc9, od9, .func (PySem.W.fnOf "_law_wide" "_law_wide" (defArgs s_law_wide) (defBody s_law_wide) (defScope s_law_wide) .none kV9 dc9 pm9 an9 cd9 ct9), sl9⟩) (e9 : PySem.W.codeIn K cd9 "_law_wide" = true) (k9 : PySem.W.keepIn K (.ref f9) = true)
    (a10 : PySem.W.nsIn K mainGlobals "law" = some (some (.ref f10))) (l10 : K.lookup f10 = some ⟨oc10, od10, .func (PySem.W.fnOf "law" "law" (defArgs s_law) (defBody s_law) (defScope s_law) .none kV10 dc10 pm10 an10 cd10 ct10), sl10⟩) (e10 : PySem.W.codeIn K cd10 "law" = true) (k10 : PySem.W.keepIn K (.ref f10) = true)
    (y_BLANKS : PySem.W.nsIn K mainGlobals "BLANKS" = some (some (.str " \t" t_BLANKS)))
    (y_TAB : PySem.W.nsIn K mainGlobals "TAB" = some (some (.int 8 t_TAB)))
    (z_len : PySem.W.nsIn K mainGlobals "len" = some none)
    (z_min : PySem.W.nsIn K mainGlobals "min" = some none)
    (z_range : PySem.W.nsIn K mainGlobals "range" = some none)
    :
    ∃ fd : FuncData, (∀ (s : Shared) (v : Value), BindsTo s fd ⟨[v], []⟩ [("script", v)]) ∧ ∀ base : Heap, K.In base → base.Ns mainGlobals mg → FnOk l.prog w K mg base CX0 4 fa fd ["script"] (sp_law K) := by
  have e := hfa.symm.trans (PySem.W.mg_of X G a10)
  cases e
  have F0 : Fn K "indent_of" s_indent_of [] _ _ := Fn.mk' l0 e0 k0 (.inl ⟨rfl, rfl⟩)
  have F1 : Fn K "is_blank" s_is_blank [] _ _ := Fn.mk' l1 e1 k1 (.inl ⟨rfl, rfl⟩)
  have F2 : Fn K "widened" s_widened [] _ _ := Fn.mk' l2 e2 k2 (.inl ⟨rfl, rfl⟩)
  have F3 : Fn K "levelled" s_levelled [] _ _ := Fn.mk' l3 e3 k3 (.inl ⟨rfl, rfl⟩)
  have F4 : Fn K "_law_draws" s_law_draws [] _ _ := Fn.mk' l4 e4 k4 (.inl ⟨rfl, rfl⟩)
  have F5 : Fn K "_law_mixed" s_law_mixed [] _ _ := Fn.mk' l5 e5 k5 (.inl ⟨rfl, rfl⟩)
  have F6 : Fn K "_law_take" s_law_take [] _ _ := Fn.mk' l6 e6 k6 (.inl ⟨rfl, rfl⟩)
  have F7 : Fn K "_law_pick" s_law_pick [] _ _ := Fn.mk' l7 e7 k7 (.inl ⟨rfl, rfl⟩)
  have F8 : Fn K "_law_text" s_law_text [] _ _ := Fn.mk' l8 e8 k8 (.inl ⟨rfl, rfl⟩)
  have F9 : Fn K "_law_wide" s_law_wide [] _ _ := Fn.mk' l9 e9 k9 (.inl ⟨rfl, rfl⟩)
  have F10 : Fn K "law" s_law [] _ _ := Fn.mk' l10 e10 k10 (.inl ⟨rfl, rfl⟩)
  have m_len : mg "len" = none := PySem.W.mg_none_of X G z_len
  have m_min : mg "min" = none := PySem.W.mg_none_of X G z_min
  have m_range : mg "range" = none := PySem.W.mg_none_of X G z_range
  have c_BLANKS := PySem.W.mg_of X G y_BLANKS
  have c_TAB := PySem.W.mg_of X G y_TAB
  refine ⟨PySem.W.fnOf "law" "law" (defArgs s_law) (defBody s_law) (defScope s_law) .none kV10 dc10 pm10 an10 cd10 ct10, fun s v => .of_eq rfl, fun base _ _ => ?_⟩
  have O_indent_of : Own l.prog w K mg base "indent_of" 1 ["line"] [] (sp_indent_of) := by
    exact ⟨_, _, [], ok_indent_of F0 m_len, PySem.W.mg_of X G a0, F0.kp, F0.bindsN (ps := ["line"]) (fun _ _ _ _ _ _ us hl => match us, hl with | [_], _ => rfl), .nil⟩
  have O_is_blank : Own l.prog w K mg base "is_blank" 1 ["line"] [] (sp_is_blank) := by
    exact ⟨_, _, [], ok_is_blank F1 c_BLANKS, PySem.W.mg_of X G a1, F1.kp, F1.bindsN (ps := ["line"]) (fun _ _ _ _ _ _ us hl => match us, hl with | [_], _ => rfl), .nil⟩
  have O_widened : Own l.prog w K mg base "widened" 1 ["text"] [] (sp_widened) := by
    exact ⟨_, _, [], ok_widened F2 c_TAB, PySem.W.mg_of X G a2, F2.kp, F2.bindsN (ps := ["text"]) (fun _ _ _ _ _ _ us hl => match us, hl with | [_], _ => rfl), .nil⟩
  have O_law_draws : Own l.prog w K mg base "_law_draws" 1 ["script"] [] (sp_law_draws K) := by
    exact ⟨_, _, [], ok_law_draws F4, PySem.W.mg_of X G a4, F4.kp, F4.bindsN (ps := ["script"]) (fun _ _ _ _ _ _ us hl => match us, hl with | [_], _ => rfl), .nil⟩
  have O_law_mixed : Own l.prog w K mg base "_law_mixed" 1 ["seed", "k"] [] (sp_law_mixed) := by
    exact ⟨_, _, [], ok_law_mixed F5, PySem.W.mg_of X G a5, F5.kp, F5.bindsN (ps := ["seed", "k"]) (fun _ _ _ _ _ _ us hl => match us, hl with | [_, _], _ => rfl), .nil⟩
  have O_law_wide : Own l.prog w K mg base "_law_wide" 1 ["line"] [] (sp_law_wide) := by
    exact ⟨_, _, [], ok_law_wide F9 m_len, PySem.W.mg_of X G a9, F9.kp, F9.bindsN (ps := ["line"]) (fun _ _ _ _ _ _ us hl => match us, hl with | [_], _ => rfl), .nil⟩
  have O_levelled : Own l.prog w K mg base "levelled" 2 ["text"] [] (sp_levelled) := by
    exact ⟨_, _, [], ok_levelled F3 O_widened O_is_blank O_indent_of m_min, PySem.W.mg_of X G a3, F3.kp, F3.bindsN (ps := ["text"]) (fun _ _ _ _ _ _ us hl => match us, hl with | [_], _ => rfl), .nil⟩
  have O_law_take : Own l.prog w K mg base "_law_take" 2 ["draws", "size"] [] (sp_law_take) := by
    exact ⟨_, _, [], ok_law_take F6 O_law_mixed m_len, PySem.W.mg_of X G a6, F6.kp, F6.bindsN (ps := ["draws", "size"]) (fun _ _ _ _ _ _ us hl => match us, hl with | [_, _], _ => rfl), .nil⟩
  have O_law_pick : Own l.prog w K mg base "_law_pick" 3 ["draws", "things"] [] (sp_law_pick) := by
    exact ⟨_, _, [], ok_law_pick F7 O_law_take m_len, PySem.W.mg_of X G a7, F7.kp, F7.bindsN (ps := ["draws", "things"]) (fun _ _ _ _ _ _ us hl => match us, hl with | [_, _], _ => rfl), .nil⟩
  have O_law_text : Own l.prog w K mg base "_law_text" 3 ["draws", "most", "signs"] [] (sp_law_text) := by
    exact ⟨_, _, [], ok_law_text F8 O_law_take m_len m_range, PySem.W.mg_of X G a8, F8.kp, F8.bindsN (ps := ["draws", "most", "signs"]) (fun _ _ _ _ _ _ us hl => match us, hl with | [_, _, _], _ => rfl), .nil⟩
  exact ok_law F10 O_law_draws O_law_take O_law_text O_law_pick O_law_wide O_levelled m_min m_range
end Pq
open PySem PySem.W PyProof.Rows
set_option maxRecDepth 100000 in
set_option maxHeartbeats 0 in
theorem PySem.Challenge.cw_promptyard_k69_texts_levelled_holds : PySem.Challenge.rw_promptyard_k69_texts_levelled.Holds := by
  w_on; o_law; k_head; (case hw => w_witness2)
  k_fill
  refine L2.walk_of (l := PySem.Challenge.rw_promptyard_k69_texts_levelled) (n := 63) (k := 4) (x := "script") (CX := fun _ => L2.CX0) (sp := fun w => Pq.sp_law _) rfl (by decide) rfl ⟨rfl, by decide, by decide⟩ (fun w h Y => PySem.W.kIn_of Y) ?F (fun _ _ a ns hl _ hS => ⟨a, ns, rfl, hS, hl, fun _ => rfl⟩) (fun _ _ _ _ _ h => h)
  case F =>
    intro w mg fa h KX G hmg
    refine' Pq.all_mk KX G hmg ?a0 ?l0 ?e0 ?k0 ?a1 ?l1 ?e1 ?k1 ?a2 ?l2 ?e2 ?k2 ?a3 ?l3 ?e3 ?k3 ?a4 ?l4 ?e4 ?k4 ?a5 ?l5 ?e5 ?k5 ?a6 ?l6 ?e6 ?k6 ?a7 ?l7 ?e7 ?k7 ?a8 ?l8 ?e8 ?k8 ?a9 ?l9 ?e9 ?k9 ?a10 ?l10 ?e10 ?k10 ?y_BLANKS ?y_TAB ?z_len ?z_min ?z_range
    (case a0 => k_is)
    (case l0 => k_is)
    (case e0 => k_is)
    (case k0 => k_is)
    (case a1 => k_is)
    (case l1 => k_is)
    (case e1 => k_is)
    (case k1 => k_is)
    (case a2 => k_is)
    (case l2 => k_is)
    (case e2 => k_is)
    (case k2 => k_is)
    (case a3 => k_is)
    (case l3 => k_is)
    (case e3 => k_is)
    (case k3 => k_is)
    (case a4 => k_is)
    (case l4 => k_is)
    (case e4 => k_is)
    (case k4 => k_is)
    (case a5 => k_is)
    (case l5 => k_is)
    (case e5 => k_is)
    (case k5 => k_is)
    (case a6 => k_is)
    (case l6 => k_is)
    (case e6 => k_is)
    (case k6 => k_is)
    (case a7 => k_is)
    (case l7 => k_is)
    (case e7 => k_is)
    (case k7 => k_is)
    (case a8 => k_is)
    (case l8 => k_is)
    (case e8 => k_is)
    (case k8 => k_is)
    (case a9 => k_is)
    (case l9 => k_is)
    (case e9 => k_is)
    (case k9 => k_is)
    (case a10 => k_is)
    (case l10 => k_is)
    (case e10 => k_is)
    (case k10 => k_is)
    (case y_BLANKS => k_is)
    (case y_TAB => k_is)
    (case z_len => k_is)
    (case z_min => k_is)
    (case z_range => k_is)

