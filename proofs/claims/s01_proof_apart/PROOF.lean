import PyProof.Rows.All
import Wide.All
import OpenK.AllK
import KE.OsGo
import PySem.Challenge.RW_pageslates_s01_answers
import Wide.FinOn
import Open.SpecLaws
import HandS.ForSpec
import HandS.Comp
import HandS.Dict
import HandS.Iter
import HandS.Walk
import HandS.Zip
import HandS.Evl
import HandS.Steps
import HandS.WordsDict
import HandS.CallLocal
import HandS.Deep
import HandS.SetFor
import KE.DataFind
import HandS.Nested
import HandS.SortKw
import KE.DataMinKey
import KE.SortKeyHeap
import HandS.Conv
import HandS.Flow
import HandS.Spec
import HandS.EndTab
set_option Elab.async false
set_option linter.all false
section
open PySem PySem.W PyProof.Rows
/-! The head, apart and first: what it leaves of memory, the rest can use. -/
local macro_rules | `(tactic| o_law) => `(tactic| skip)
local macro_rules | `(tactic| k_head) => `(tactic| k_headS)
local macro_rules | `(tactic| w_witness2) => `(tactic| exact ⟨[.list [.int 26]], by decide +kernel, by decide +kernel⟩)
set_option maxRecDepth 100000 in
set_option maxHeartbeats 8000000 in
open_top ps_head for PySem.Challenge.rw_pageslates_s01_answers
end

section
set_option maxRecDepth 100000
set_option maxHeartbeats 2000000
namespace Ps
open PySem PySem.Spec PyProof.Rows L2 Evl
def topS (i : Nat) : Stmt := PySem.Challenge.pw_pageslates_s01_answers.main.body.getD i (.Pass ⟨0, 0, 0, 0⟩)
/-- a def of the top, as it stands behind the top -/
structure FunAt (K : PySem.W.Frag) (mg : Str → Option Value) (x : Str) (st : Stmt) (ps : List Str) : Prop where
  ex : ∃ f fd, Fun K x x st f fd ∧ mg x = some (.ref f) ∧ Binds K fd ps []
/-- a def that keeps its promise -/
structure DefAt (P : Program) (w : World) (K : PySem.W.Frag) (mg : Str → Option Value) (base : Heap) (k : Nat) (x : Str) (ps : List Str) (sp : Sp) : Prop where
  ex : ∃ f fd, FnOk P w K mg base CX0 k f fd ps sp ∧ mg x = some (.ref f) ∧ PySem.W.keepIn K (.ref f) = true ∧ Binds K fd ps []
/-- a method of the class at C -/
structure MFunAt (K : PySem.W.Frag) (C : Addr) (m q : Str) (st : Stmt) (ps : List Str) : Prop where
  ex : ∃ f fd, Fun K m q st f fd ∧ Meth K C m f ∧ Binds K fd ps []
structure MethAt (P : Program) (w : World) (K : PySem.W.Frag) (mg : Str → Option Value) (base : Heap) (k : Nat) (C : Addr) (m : Str) (ps : List Str) (sp : Sp) : Prop where
  ex : ∃ f fd, FnOk P w K mg base CX0 k f fd ps sp ∧ Meth K C m f ∧ Binds K fd ps []
structure IFunAt (K : PySem.W.Frag) (C : Addr) (q : Str) (st : Stmt) (ps : List Str) : Prop where
  ex : ∃ f fd, Fun K "__init__" q st f fd ∧ Mk K C f ∧ Binds K fd ps []
structure MakeAt (P : Program) (w : World) (K : PySem.W.Frag) (mg : Str → Option Value) (base : Heap) (k : Nat) (C : Addr) (ps : List Str) (sp : Sp) : Prop where
  ex : ∃ f fd, FnOk P w K mg base CX0 k f fd ps sp ∧ Mk K C f ∧ Binds K fd ps []
def GInt (mg : Str → Option Value) (x : Str) (n : Int) : Prop := ∃ t, mg x = some (.int n t)
section
variable {X : Cx} {K : PySem.W.Frag} {e o a b : Expr} {es : List Expr} {ta tb te tv to tl : TE} {t : TA} {f x : Str} {p pos pos' apos : Pos} {k : Nat} {C : Addr} {ps : List Str} {sp : Sp}
theorem pe_gi {n : Int} (h : GInt X.mg x n) (hg : Gl X x := by rfl) (hd : (x == ("__debug__" : Str)) = false := by decide) : PE X (.Name x pos) (tC (.int n)) := by
  obtain ⟨t, ht⟩ := h
  exact pe_glob hg ht ⟨t, rfl⟩ hd
theorem pe_gr {r : Addr} (h : X.mg x = some (.ref r)) (hg : Gl X x := by rfl) (hd : (x == ("__debug__" : Str)) = false := by decide) : PE X (.Name x pos) (tC (.ref r)) := pe_glob hg h rfl hd
theorem pe_cd (D : DefAt X.prog X.w X.K X.mg X.base k x ps sp) (hr : Room k X.A) (hx : Passes CX0 X E0) (ha : PA X (e :: es) t) (hg : Gl X x := by rfl)
    (hdb : (x == ("__debug__" : Str)) = false := by decide) (he : starEach (e :: es) X.env = (false, eval e X.env) :: starEach es X.env := by rfl) (hpl : (backTo pos (starEach es X.env)).any (·.1) = false := by rfl) :
    PE X (.Call (.Name x p) (e :: es) [] pos) (tCall sp [] E0 t) := by
  obtain ⟨f, fd, F, hm, hk, hb⟩ := D.ex
  exact pe_call F hr hg hm hk hb .nil hx ha hdb he hpl
theorem pe_cd0 (D : DefAt X.prog X.w X.K X.mg X.base k x ps sp) (hr : Room k X.A) (hx : Passes CX0 X E0) (hg : Gl X x := by rfl)
    (hdb : (x == ("__debug__" : Str)) = false := by decide) : PE X (.Call (.Name x p) [] [] pos) (tCall sp [] E0 tNil) := by
  obtain ⟨f, fd, F, hm, hk, hb⟩ := D.ex
  exact pe_call0 F hr hg hm hk hb .nil hx hdb
theorem pe_mt {m : Str} {pl : Sem Bool} (D : MethAt X.prog X.w X.K X.mg X.base k C m ps sp) (c : Cls X.K C) (hr : Room k X.A) (hx : Passes CX0 X E0) (he : PE X o ta) (ha : PA X (e :: es) t)
    (hst : starEach (e :: es) X.env = (false, eval e X.env) :: starEach es X.env := by rfl) (hpl : (backTo pos (starEach es X.env)).any (·.1) = false := by rfl)
    (ht : eval (.Call (.Attribute o m apos) (e :: es) [] pos) X.env = (do let ov ← eval o X.env; standAt apos.atName; let (f, first) ← holding [ov] (getMethod ov m pl); callWith pos f first (backTo pos (starEach (e :: es) X.env)) (backToKw pos (keywordEach [] X.env))) := by rfl) :
    PE X (.Call (.Attribute o m apos) (e :: es) [] pos) (tMeth C m sp [] E0 ta t) := by
  obtain ⟨f, fd, F, hm, hb⟩ := D.ex
  exact pe_meth (pl := pl) he c hm F hr hb .nil hx ha hst hpl ht
theorem pe_mk (D : MakeAt X.prog X.w X.K X.mg X.base k C ps sp) (hm : X.mg x = some (.ref C)) (hr : Room (k + 1) X.A) (hx : Passes CX0 X E0) (ha : PA X (e :: es) t) (hg : Gl X x := by rfl)
    (hdb : (x == ("__debug__" : Str)) = false := by decide) (he : starEach (e :: es) X.env = (false, eval e X.env) :: starEach es X.env := by rfl) (hpl : (backTo pos (starEach es X.env)).any (·.1) = false := by rfl) :
    PE X (.Call (.Name x p) (e :: es) [] pos) (tMake C sp [] E0 t) := by
  obtain ⟨f, fd, F, M, hb⟩ := D.ex
  exact pe_make M F hr hg hm hb .nil hx ha hdb he hpl
theorem pe_mk0 (D : MakeAt X.prog X.w X.K X.mg X.base k C ps sp) (hm : X.mg x = some (.ref C)) (hr : Room (k + 1) X.A) (hx : Passes CX0 X E0) (hg : Gl X x := by rfl)
    (hdb : (x == ("__debug__" : Str)) = false := by decide) : PE X (.Call (.Name x p) [] [] pos) (tMake C sp [] E0 tNil) := by
  obtain ⟨f, fd, F, M, hb⟩ := D.ex
  exact pe_make0 M F hr hg hm hb .nil hx hdb
/-! ### rules whose written part is a letter of its own -/
theorem fldK (he : PE X e ta) (hb : attributeBase e f X.env (eval e X.env) = eval e X.env := by rfl) (hK : X.K = K := by rfl) : PE X (.Attribute e f pos) (tFld K ta f) := by
  subst hK; exact pe_fld he hb
theorem sfldK {value : Expr} (ha : PE X o ta) (hv : PE X value tv) (hs : swapsWith value (some (.Attribute o f pos')) pos.line X.env = pure false := by rfl) (hK : X.K = K := by rfl) : PS X (.Assign [.Attribute o f pos'] value pos) (sFld K ta tv f) := by
  subst hK; exact ps_fld ha hv hs
theorem ixL (hK : X.K = K := by rfl) : IxR X (rIxL K) := by
  subst hK; exact ix_list
theorem ixT (hK : X.K = K := by rfl) : IxR X (rIxT K) := by
  subst hK; exact ix_tup
theorem slL (hK : X.K = K := by rfl) : SlR X (rSlL K) := by
  subst hK; exact sl_list
theorem inK (hK : X.K = K := by rfl) : OpR X (compareOp .In) (rIn K false) := by
  subst hK; exact op_in_seq
theorem notInK (hK : X.K = K := by rfl) : OpR X (compareOp .NotIn) (rIn K true) := by
  subst hK; exact op_notIn_seq
theorem hu65 {A : Around} {k : Nat} (hr : Room k A) : A.units + 65 < cLine := by
  have := hr.un
  omega
theorem inDK (hr : Room k X.A) (hK : X.K = K := by rfl) : OpR X (compareOp .In) (rInD K) := by
  subst hK; exact op_inD (hu65 hr)
theorem notInDK (hr : Room k X.A) (hK : X.K = K := by rfl) : OpR X (compareOp .NotIn) (rNotInD K) := by
  subst hK; exact op_notInD (hu65 hr)
theorem lenK (hK : X.K = K := by rfl) : CallR X (.builtin "len") (rLenS K) := by
  subst hK; exact call_len_seq
theorem listK (hK : X.K = K := by rfl) : CallR X (.type "list") (rListS K) := by
  subst hK; exact call_list_of
theorem allK (hc : X.calm = true := by rfl) (hK : X.K = K := by rfl) : CallR X (.builtin "all") (rAll K) := by
  subst hK; exact cr_all hc
theorem anyK (hc : X.calm = true := by rfl) (hK : X.K = K := by rfl) : CallR X (.builtin "any") (rAny K) := by
  subst hK; exact cr_any hc
theorem sumK (hc : X.calm = true := by rfl) (hK : X.K = K := by rfl) : CallR X (.builtin "sum") (rSum K) := by
  subst hK; exact cr_sum hc
theorem min2K (hc : X.calm = true := by rfl) : CallR X (.builtin "min") (fun xs H Q => ∃ i j, xs = [.int i, .int j] ∧ Q (.int (if j < i then j else i)) H) := call_min2 hc
theorem max2K (hc : X.calm = true := by rfl) : CallR X (.builtin "max") rMax2 := call_max2 hc
theorem countK (hK : X.K = K := by rfl) : MtR X "list.count" (rCntI K) := by
  subst hK; exact mt_lcount
variable {tg l : Expr}
theorem wList (hl : PE X l tl) (hK : X.K = K := by rfl) : PI X tg l (iList K tl) := by
  subst hK; exact pi_list hl
theorem wTup (hl : PE X l tl) (hK : X.K = K := by rfl) : PI X tg l (iTup K tl) := by
  subst hK; exact pi_tup hl
theorem wEnum {tpos : Pos} {elts : List Expr} {kk : Nat} (hm : X.mg "enumerate" = none) (ha : PA X [e] t) (hg : Gl X "enumerate" := by rfl) (hs : starEach [e] X.env = [(false, eval e X.env)] := by rfl) (hK : X.K = K := by rfl) :
    PI X (.Tuple elts kk tpos) (.Call (.Name "enumerate" p) [e] [] pos) (iEnum K t) := by
  subst hK; exact pi_enum hg hm ha hs
theorem wZip {tpos : Pos} {elts : List Expr} {kk : Nat} {e2 : Expr} (hm : X.mg "zip" = none) (ha : PA X [e, e2] t) (hg : Gl X "zip" := by rfl)
    (hs : starEach [e, e2] X.env = (false, eval e X.env) :: starEach [e2] X.env := by rfl) (hpl : (backTo pos (starEach [e2] X.env)).any (·.1) = false := by rfl) (hK : X.K = K := by rfl) :
    PI X (.Tuple elts kk tpos) (.Call (.Name "zip" p) [e, e2] [] pos) (iZip K t) := by
  subst hK; exact pi_zip hg hm ha hs hpl
theorem gTupK {kk n : Nat} {u : TGs} (h : PGs X es u) (hc : X.calm = true := by rfl) (hn : (assignEach es X.env).length = n := by rfl) (hst : (assignEach es X.env).findIdx? (·.1) = none := by rfl) (hK : X.K = K := by rfl) : PG X (.Tuple es kk pos) (gTup K n u) := by
  subst hK; exact pg_tup hc h hn hst
theorem bmK {T id : String} {r : V → List V → Hp → VK → Prop} {name : Str} (pa : PlainAttrs T) (slot : Slot T name id) (hty : typeOf (.builtin id) = pure (.type "method_descriptor")) (hm : MtR X id r) (ho : PE X o to) (ha : PA X (e :: es) t) (hK : X.K = K := by rfl)
    (hbase : attributeBase o name X.env (eval o X.env) = eval o X.env := by rfl)
    (hfew : ((backTo pos (starEach (e :: es) X.env)).all (fun x => !x.1) && (backToKw pos (keywordEach [] X.env)).all (fun x => x.1.isSome) && decide ((e :: es).length + ([] : List Keyword).length + (if ([] : List Keyword).isEmpty then 0 else 1) < 30)) = true := by rfl)
    (hline : (apos.endLine == pos.line) = true := by rfl) (hs : starEach (e :: es) X.env = (false, eval e X.env) :: starEach es X.env := by rfl) (hplain : (backTo pos (starEach es X.env)).any (·.1) = false := by rfl) :
    PE X (.Call (.Attribute o name apos) (e :: es) [] pos) (tBM K T r to t) := by
  subst hK; exact pe_bm pa slot hty hm ho ha hbase hfew hline hs hplain
theorem truK (ha : PE X e te) (he : ∀ whole, isTrue e X.env whole = (do let v ← whole; standAt e.pos; holding [v] (truthy v)) := by intro _; rfl) (hK : X.K = K := by rfl) : PT X e (tTru K te) := by
  subst hK; exact pt_truth ha he
end
end Ps
end

section
namespace Ps
open PySem PySem.Spec PyProof.Rows L2 Evl
/-- what the top has written of names -/
structure Txt (K : PySem.W.Frag) (mg : Str → Option Value) (CC CP CS : Addr) : Prop where
  len : mg "len" = none
  all : mg "all" = none
  zip : mg "zip" = none
  range : mg "range" = none
  enumerate : mg "enumerate" = none
  sum : mg "sum" = none
  min : mg "min" = none
  max : mg "max" = none
  int : mg "int" = none
  list : mg "list" = none
  set : mg "set" = none
  sorted : mg "sorted" = none
  NO_PAGE : GInt mg "NO_PAGE" (-11)
  NO_CANDIDATE : GInt mg "NO_CANDIDATE" (-2)
  OUTSIDE_LIMITS : GInt mg "OUTSIDE_LIMITS" (-22)
  ALREADY_THERE : GInt mg "ALREADY_THERE" (-17)
  TOO_MANY_CANDIDATES : GInt mg "TOO_MANY_CANDIDATES" (-28)
  NOT_THERE : GInt mg "NOT_THERE" (-33)
  MOST_POSITIONS : GInt mg "MOST_POSITIONS" 5
  MOST_CANDIDATES : GInt mg "MOST_CANDIDATES" 9
  GROUP_COUNT : GInt mg "GROUP_COUNT" 6
  TOPIC_COUNT : GInt mg "TOPIC_COUNT" 12
  GREATEST_WEIGHT : GInt mg "GREATEST_WEIGHT" 1000
  GREATEST_SCORE : GInt mg "GREATEST_SCORE" 10000
  GREATEST_CREATOR : GInt mg "GREATEST_CREATOR" 1000
  GREATEST_AGE : GInt mg "GREATEST_AGE" 10000
  GREATEST_QUOTA : GInt mg "GREATEST_QUOTA" 5
  GREATEST_LIMIT : GInt mg "GREATEST_LIMIT" 5
  GREATEST_SPACING : GInt mg "GREATEST_SPACING" 5
  GREATEST_DIVERSITY : GInt mg "GREATEST_DIVERSITY" 100000
  MOST_BEST : GInt mg "MOST_BEST" 5
  LEAST_PRICE : GInt mg "LEAST_PRICE" (-1000000000)
  GREATEST_PRICE : GInt mg "GREATEST_PRICE" 1000000000
  GREATEST_SIZE : GInt mg "GREATEST_SIZE" 1000000
  MOST_ROUNDS : GInt mg "MOST_ROUNDS" 20
  GREATEST_KIND : GInt mg "GREATEST_KIND" 5
  MOST_CHANGES : GInt mg "MOST_CHANGES" 1000
  CREATE : GInt mg "CREATE" 0
  LAST_CHANGE : GInt mg "LAST_CHANGE" 10
  cCandidate : Cls K CC
  cPage : Cls K CP
  cSession : Cls K CS
  gCandidate : mg "Candidate" = some (.ref CC)
  gPage : mg "Page" = some (.ref CP)
  gSession : mg "Session" = some (.ref CS)
  nP_weights : NoAttr K CP "weights"
  nP_candidates : NoAttr K CP "candidates"
  nP_quotas : NoAttr K CP "quotas"
  nP_limit : NoAttr K CP "limit"
  nP_spacing : NoAttr K CP "spacing"
  nP_fresh_age : NoAttr K CP "fresh_age"
  nP_fresh_least : NoAttr K CP "fresh_least"
  nP_diversity : NoAttr K CP "diversity"
  nP_forbidden : NoAttr K CP "forbidden"
  nP_pins : NoAttr K CP "pins"
  nC_score : NoAttr K CC "score"
  nC_group : NoAttr K CC "group"
  nC_creator : NoAttr K CC "creator"
  nC_age : NoAttr K CC "age"
  nC_topics : NoAttr K CC "topics"
  nS_page : NoAttr K CS "page"
end Ps
end

section
set_option maxRecDepth 100000
set_option maxHeartbeats 2000000
namespace Ps
open PySem PySem.Spec PyProof.Rows L2 Evl
/-! Evaluations: what the hand layer's Evl leaves out. -/
abbrev nV (n : Nat) : V := .int (n : Int)
/-- to a list that holds xs, an old or a new one -/
def EvS (K : PySem.W.Frag) (te : TE) (σ : L2.St) (H : Hp) (xs : List V) : Prop := ∀ H1, Ex H H1 → ∀ Q : VK, (∀ p H2, Ex H1 H2 → SqL K H2 p xs → Q (.ref p) H2) → te σ H1 Q
section
variable {K : PySem.W.Frag} {σ : L2.St} {H H' : Hp} {ta tb tc te tx tl : TE} {t u : TT} {x y z v : V} {xs ys : List V}
theorem es_of {p : Addr} (h : Ev te σ H (.ref p)) (hs : SqL K H p xs) : EvS K te σ H xs := fun H1 e Q q => h H1 e Q fun H2 e2 => q p H2 e2 (ex_l (e.trans e2) hs)
theorem es_new (h : EvL te σ H xs) : EvS K te σ H xs := fun H1 e Q q => h H1 e Q fun p H2 _ e2 hp => q p H2 e2 (sq_of hp)
theorem EvS.mono (e : Ex H H') (h : EvS K te σ H xs) : EvS K te σ H' xs := fun H1 a Q q => h H1 (e.trans a) Q q
theorem EvS.is (h : EvS K te σ H xs) (e : xs = ys) : EvS K te σ H ys := e ▸ h
theorem EvL.is (h : EvL te σ H xs) (e : xs = ys) : EvL te σ H ys := e ▸ h
theorem ev_lenS (h : EvS K te σ H xs) : Ev (tCB (rLenS K) (tCons te tNil)) σ H (.int (xs.length : Int)) := fun H1 e Q q => h H1 e _ fun p H2 e2 hs => ⟨p, xs, rfl, .inl hs, q H2 e2⟩
theorem ev_allS {bs : List Bool} (h : EvS K te σ H (bs.map V.bl)) : Ev (tCB (rAll K) (tCons te tNil)) σ H (.bl (bs.all id)) := fun H1 e Q q => h H1 e _ fun p H2 e2 hs => ⟨p, bs, rfl, hs, q H2 e2⟩
theorem ev_sumS {ns : List Int} (h : EvS K te σ H (ns.map V.int)) : Ev (tCB (rSum K) (tCons te tNil)) σ H (.int ns.sum) := fun H1 e Q q => h H1 e _ fun p H2 e2 hs => ⟨p, ns, rfl, hs, q H2 e2⟩
theorem es_sl {tlo thi : TO} {lo hi : Option Int} (h : EvS K te σ H xs) (h1 : EvO tlo σ H lo) (h2 : EvO thi σ H hi) : EvL (tSl (rSlL K) te tlo thi) σ H (cutV xs lo hi) := fun H1 e _ q =>
  h H1 e _ fun a H2 e2 hs => h1 H2 (e.trans e2) _ fun H3 e3 => h2 H3 ((e.trans e2).trans e3) _ fun H4 e4 =>
    ⟨a, xs, rfl, ex_l (e3.trans e4) hs, fun p hp => q p _ (fresh_back ((e2.trans e3).trans e4) hp) (((e2.trans e3).trans e4).trans (Ex.new hp)) upd_same⟩
theorem ev_chain {p q : Int → Int → Bool} {i j k : Int} (ha : Ev ta σ H (.int i)) (hb : Ev tb σ H (.int j)) (hc : Ev tc σ H (.int k)) :
    Ev (tChain (rI0 fun i j => .bl (p i j)) (rI0 fun i j => .bl (q i j)) ta tb tc) σ H (.bl (p i j && q j k)) := fun H1 e Q w =>
  ha H1 e _ fun H2 e2 => hb H2 (e.trans e2) _ fun H3 e3 => ⟨i, j, rfl, rfl, p i j, rfl, by
    cases hp : p i j with
    | true =>
      rw [if_pos rfl]
      rw [hp] at w
      exact hc H3 ((e.trans e2).trans e3) _ fun H4 e4 => ⟨j, k, rfl, rfl, w H4 ((e2.trans e3).trans e4)⟩
    | false =>
      rw [if_neg Bool.false_ne_true]
      rw [hp] at w
      exact w H3 (e2.trans e3)⟩
theorem ev_fld {a C dx : Addr} {fs : List (Str × V)} {f : Str} (h : Ev ta σ H (.ref a)) (ho : H a = some (.ins C dx fs)) (hc : Cls K C) (hn : NoAttr K C f) (hl : fs.lookup f = some v) : Ev (tFld K ta f) σ H v := fun H1 e Q q =>
  h H1 e _ fun H2 e2 => ⟨a, C, dx, fs, v, rfl, e2 _ _ (e _ _ ho), hc, hn, hl, q H2 e2⟩
theorem ev_ixS {i : Int} (h : EvS K ta σ H xs) (hi : Ev tb σ H (.int i)) (ha : atI xs i = some v) : Ev (tOp (rIxL K) ta tb) σ H v := fun H1 e Q q =>
  h H1 e _ fun p H2 e2 hs => hi H2 (e.trans e2) _ fun H3 e3 => ⟨p, xs, i, v, rfl, rfl, ex_l e3 hs, ha, q H3 (e2.trans e3)⟩
theorem ev_ixT {p : Addr} {i : Int} (h : Ev ta σ H (.ref p)) (ht : SqT K H p xs) (hi : Ev tb σ H (.int i)) (ha : atI xs i = some v) : Ev (tOp (rIxT K) ta tb) σ H v := ev_op h hi (rv_ixT ht ha)
theorem ev_min2 {i j : Int} (ha : Ev ta σ H (.int i)) (hb : Ev tb σ H (.int j)) : Ev (tCB (fun xs H Q => ∃ i j, xs = [V.int i, .int j] ∧ Q (.int (if j < i then j else i)) H) (tCons ta (tCons tb tNil))) σ H (.int (if j < i then j else i)) := fun H1 e Q q =>
  ha H1 e _ fun H2 e2 => hb H2 (e.trans e2) _ fun H3 e3 => ⟨i, j, rfl, q H3 (e2.trans e3)⟩
/-- the truth of a list -/
theorem et_tru (h : EvS K te σ H xs) : EvT (tTru K te) σ H (!xs.isEmpty) := fun H1 e Q q => h H1 e _ fun p H2 e2 hs => ⟨!xs.isEmpty, .inl ⟨xs, hs, rfl⟩, q H2 e2⟩
/-! ### comprehensions -/
theorem lc_gen {J : It} {n : Nat} {G : Hp → Prop} {Y : Nat → Hp → V → Hp → Prop} (w : Walk J n G Y) {g : TG} {tt : TT} {te : TE} {vs : List Nat} {H1 : Hp} {D : Addr} {Qd : Hp → Prop} (c : Nat → Bool) (v : Nat → V) (τ : Nat → L2.St) (hD : H1 D = none) (hn : n ≤ 40000)
    (hG : ∀ H, Ex H1 H → G H)
    (hs : ∀ i x H H', i < n → Ex H1 H → Y i H x H' → Ex H H' ∧ ∀ Q : L2.St → Hp → Prop, (∀ H2, Ex H' H2 → Q (τ i) H2) → g x (wipe σ vs) H' Q)
    (hw : ∀ i, i < n → wipe (τ i) vs = wipe σ vs) (ht : ∀ i, i < n → EvT tt (τ i) H1 (c i)) (he : ∀ i, i < n → c i = true → Ev te (τ i) H1 (v i)) (hd : ∀ H, Ex H1 H → H D = some (.lst (given n c v)) → Qd H) :
    ∃ W : Nat → Nat → Hp → Prop, (∃ m, W 0 m (upd H1 D (.lst []))) ∧ ∀ i m H, W i m H →
      (J.stop i H ∧ Qd H) ∨ (J.go i H ∧ ∃ Nx : Hp → Prop, (∀ H', Nx H' → ∃ m', m' < m ∧ W (i + 1) m' H') ∧ ∀ x H', J.yld i H x H' → g x (wipe σ vs) H' fun σ2 H2 => wipe σ2 vs = wipe σ vs ∧ tt σ2 H2 fun b H3 =>
        if b = true then te σ2 H3 fun y H4 => ∃ acc, H4 D = some (.lst acc) ∧ acc.length < sizeLine ∧ Nx (upd H4 D (.lst (acc ++ [y]))) else Nx H3) := by
  refine lc_it w (fun i H' => Ex H1 H' ∧ H' D = some (.lst (given i c v))) ⟨Ex.new hD, upd_same⟩ (fun i H _ p => hG H p.1) (fun i x H H' hi p y => ?_) (fun H p => hd H p.1 p.2)
  obtain ⟨e1, k⟩ := hs i x H H' hi p.1 y
  refine k _ fun H2 e2 => ⟨hw i hi, ht i hi H2 ((p.1.trans e1).trans e2) _ fun H3 e3 => ?_⟩
  have e03 : Ex H H3 := (e1.trans e2).trans e3
  cases hc : c i with
  | true =>
    rw [if_pos rfl]
    refine he i hi hc H3 (p.1.trans e03) _ fun H4 e4 => ⟨_, e4 _ _ (e03 _ _ p.2), sz_lt (by have := given_len i c v; omega), Ex.mut (p.1.trans (e03.trans e4)) hD, ?_⟩
    rw [given_yes hc]
    exact upd_same
  | false =>
    rw [if_neg Bool.false_ne_true]
    refine ⟨p.1.trans e03, ?_⟩
    rw [given_no hc]
    exact e03 _ _ p.2
theorem given_map {c : Nat → Bool} {v : Nat → V} {α : Type} {l : List α} {g : α → V} (hc : ∀ i, i < l.length → c i = true) (h : ∀ (i : Nat) (a : α), l[i]? = some a → v i = g a) : given l.length c v = l.map g := by
  unfold given
  have e : (List.range l.length).filter c = List.range l.length := List.filter_eq_self.mpr fun i hi => hc i (List.mem_range.mp hi)
  rw [e]
  refine List.ext_getElem (by simp) fun i h1 h2 => ?_
  have hi : i < l.length := by simpa using h2
  simp only [List.getElem_map, List.getElem_range]
  exact h i _ (List.getElem?_eq_getElem hi)
theorem given_filter {c : Nat → Bool} {v : Nat → V} {α : Type} {l : List α} {d : α → Bool} {g : α → V} (hc : ∀ (i : Nat) (a : α), l[i]? = some a → c i = d a) (h : ∀ (i : Nat) (a : α), l[i]? = some a → v i = g a) : given l.length c v = (l.filter d).map g := by
  have key : ∀ n, n ≤ l.length → given n c v = ((l.take n).filter d).map g := by
    intro n
    induction n with
    | zero => intro _; rfl
    | succ n ih =>
      intro hn
      have hi : n < l.length := hn
      have e1 : l[n]? = some l[n] := List.getElem?_eq_getElem hi
      have e2 : l.take (n + 1) = l.take n ++ [l[n]] := by rw [List.take_add_one, e1]; rfl
      rw [e2, List.filter_append, List.map_append, ← ih (by omega)]
      cases hd : d l[n] with
      | true =>
        rw [given_yes (by rw [hc n _ e1]; exact hd), h n _ e1]
        simp [hd]
      | false =>
        rw [given_no (by rw [hc n _ e1]; exact hd)]
        simp [hd]
  have := key l.length (Nat.le_refl _)
  rwa [List.take_length] at this
/-- over a list; the target a name -/
theorem el_lcS {j : Nat} {vs : List Nat} {α : Type} {l : List α} {r : α → V} {d : α → Bool} {g : α → V} (h : EvS K tl σ H (l.map r)) (hz : l.length ≤ 40000) (hw : ∀ x, wipe ((wipe σ vs).set j (some x)) vs = wipe σ vs)
    (ht : ∀ (a : α) H1, Ex H H1 → a ∈ l → EvT t ((wipe σ vs).set j (some (r a))) H1 (d a)) (he : ∀ (a : α) H1, Ex H H1 → a ∈ l → d a = true → Ev te ((wipe σ vs).set j (some (r a))) H1 (g a)) :
    EvL (tLc (iList K tl) (gName j) t te vs) σ H ((l.filter d).map g) := fun H0 e Q q => h H0 e _ fun a H1 e1 hs => ⟨a, rfl, ⟨_, hs⟩, fun D hD => by
  cases l with
  | nil =>
    refine lc_gen walk_list (fun _ => true) (fun _ => .non) (fun _ => σ) hD (by simp) (fun H' e' => ex_l e' hs) ?_ ?_ ?_ ?_ fun H' e' h' => q D H' (fresh_back e1 hD) (e1.trans e') h'
    all_goals (intro i; simp)
  | cons a0 l' =>
    have hl : ((a0 :: l').map r).length = (a0 :: l').length := List.length_map r
    refine lc_gen walk_list (fun i => d ((a0 :: l').getD i a0)) (fun i => g ((a0 :: l').getD i a0)) (fun i => (wipe σ vs).set j (some (r ((a0 :: l').getD i a0)))) hD (by rw [hl]; exact hz) (fun H' e' => ex_l e' hs) ?_ (fun i _ => hw _) ?_ ?_ fun H' e' h' => q D H' (fresh_back e1 hD) (e1.trans e') ?_
    · rintro i x H2 H3 hi e2 ⟨rfl, hx⟩
      refine ⟨Ex.refl _, fun Q k => ?_⟩
      rw [hl] at hi
      have : x = r ((a0 :: l').getD i a0) := by
        rw [List.getElem?_map, List.getElem?_eq_getElem hi] at hx
        rw [List.getD_eq_getElem?_getD, List.getElem?_eq_getElem hi]
        exact (Option.some.inj hx).symm
      subst this
      exact k _ (Ex.refl _)
    · intro i hi
      rw [hl] at hi
      refine ht _ H1 (e.trans e1) ?_
      rw [List.getD_eq_getElem?_getD, List.getElem?_eq_getElem hi]
      exact List.getElem_mem hi
    · intro i hi hc
      rw [hl] at hi
      refine he _ H1 (e.trans e1) ?_ hc
      rw [List.getD_eq_getElem?_getD, List.getElem?_eq_getElem hi]
      exact List.getElem_mem hi
    · rw [hl] at h'
      rw [h']
      congr 2
      refine given_filter (fun i a hi => ?_) (fun i a hi => ?_) <;> simp [List.getD_eq_getElem?_getD, hi]⟩
theorem et_yes : EvT tYes σ H true := fun H1 _ _ q => q H1 (Ex.refl H1)
theorem el_lcM {j : Nat} {vs : List Nat} {α : Type} {l : List α} {r : α → V} {g : α → V} (h : EvS K tl σ H (l.map r)) (hz : l.length ≤ 40000) (hw : ∀ x, wipe ((wipe σ vs).set j (some x)) vs = wipe σ vs)
    (he : ∀ (a : α) H1, Ex H H1 → a ∈ l → Ev te ((wipe σ vs).set j (some (r a))) H1 (g a)) : EvL (tLc (iList K tl) (gName j) tYes te vs) σ H (l.map g) := by
  have := el_lcS (d := fun _ => true) (t := tYes) h hz hw (fun _ _ _ _ => et_yes) fun a H1 e m _ => he a H1 e m
  rwa [List.filter_eq_self.mpr fun _ _ => rfl] at this
/-- over a range; the target a name -/
theorem el_lcR {j : Nat} {vs : List Nat} {n : Nat} {g : Nat → V} {tr : TE} (h : Ev tr σ H (.int (n : Int))) (hn : n ≤ 40000) (hw : ∀ x, wipe ((wipe σ vs).set j (some x)) vs = wipe σ vs)
    (he : ∀ (i : Nat) H1, Ex H H1 → i < n → Ev te ((wipe σ vs).set j (some (nV i))) H1 (g i)) : EvL (tLc (iRng1 (tCons tr tNil)) (gName j) tYes te vs) σ H ((List.range n).map g) := fun H0 e Q q => h H0 e _ fun H1 e1 =>
  ⟨(n : Int), rfl, by omega, by omega, fun D hD => by
    have hn' : ((n : Int)).toNat = n := by omega
    rw [hn']
    refine lc_gen walk_range (fun _ => true) g (fun i => (wipe σ vs).set j (some (nV i))) hD hn (fun _ _ => trivial) ?_ (fun i _ => hw _) (fun _ _ => et_yes) (fun i hi _ => he i H1 (e.trans e1) hi) fun H' e' h' => q D H' (fresh_back e1 hD) (e1.trans e') ?_
    · rintro i x H2 H3 hi e2 ⟨rfl, rfl⟩
      refine ⟨Ex.refl _, fun Q k => ?_⟩
      have e0 : (0 : Int) + (i : Int) = (i : Int) := Int.zero_add _
      show Q ((wipe σ vs).set j (some (.int ((0 : Int) + (i : Int))))) H3
      rw [e0]
      exact k _ (Ex.refl _)
    · rw [h']
      congr 2
      unfold given
      rw [List.filter_eq_self.mpr fun _ _ => rfl]⟩
/-- two lists as arguments -/
def EvZ (K : PySem.W.Frag) (tz : TA) (σ : L2.St) (H : Hp) (xs ys : List V) : Prop := ∀ H1, Ex H H1 → ∀ Q : List V → Hp → Prop, (∀ a b H2, Ex H1 H2 → SqL K H2 a xs → SqL K H2 b ys → Q [.ref a, .ref b] H2) → tz σ H1 Q
theorem ez_of (h1 : EvS K ta σ H xs) (h2 : EvS K tb σ H ys) : EvZ K (tCons ta (tCons tb tNil)) σ H xs ys := fun H1 e _ q => h1 H1 e _ fun a H2 e2 s2 => h2 H2 (e.trans e2) _ fun b H3 e3 s3 => q a b H3 (e2.trans e3) (ex_l e3 s2) s3
/-- over two lists at once; the target two names -/
theorem el_lcZ {j k : Nat} {vs : List Nat} {tz : TA} {α β : Type} {l : List α} {m : List β} {r : α → V} {s : β → V} {g : α → β → V} (h : EvZ K tz σ H (l.map r) (m.map s)) (hz : l.length ≤ 40000)
    (hw : ∀ x y, wipe (((wipe σ vs).set j (some x)).set k (some y)) vs = wipe σ vs)
    (he : ∀ (a : α) (b : β) H1, Ex H H1 → (a, b) ∈ l.zip m → Ev te (((wipe σ vs).set j (some (r a))).set k (some (s b))) H1 (g a b)) :
    EvL (tLc (iZip K tz) (gTup K 2 (gCons (gName j) (gCons (gName k) gNil))) tYes te vs) σ H ((l.zip m).map fun p => g p.1 p.2) := fun H0 e Q q => h H0 e _ fun a b H1 e1 sa sb => ⟨a, b, _, _, rfl, sa, sb, fun D hD => by
  have hlen : (l.zip m).length = min (l.map r).length (m.map s).length := by simp
  cases hzip : l.zip m with
  | nil =>
    rw [hzip] at hlen
    refine lc_gen (walk_zip hlen) (fun _ => true) (fun _ => .non) (fun _ => σ) hD (by simp) (fun H' e' => ⟨ex_l e' sa, ex_l e' sb⟩) ?_ ?_ ?_ ?_ fun H' e' h' => q D H' (fresh_back e1 hD) (e1.trans e') (by rw [hzip]; exact h')
    all_goals (intro i; simp)
  | cons p0 z' =>
    have get : ∀ i, i < (l.zip m).length → ∃ (x : α) (y : β), (l.zip m)[i]? = some (x, y) ∧ l[i]? = some x ∧ m[i]? = some y ∧ (l.zip m).getD i p0 = (x, y) := by
      intro i hi
      refine ⟨((l.zip m)[i]).1, ((l.zip m)[i]).2, ?_, ?_, ?_, ?_⟩
      · rw [List.getElem?_eq_getElem hi]
      · have : i < l.length := by simp at hi; omega
        rw [List.getElem?_eq_getElem this]; simp
      · have : i < m.length := by simp at hi; omega
        rw [List.getElem?_eq_getElem this]; simp
      · rw [List.getD_eq_getElem?_getD, List.getElem?_eq_getElem hi]; rfl
    refine lc_gen (walk_zip hlen) (fun _ => true) (fun i => g ((l.zip m).getD i p0).1 ((l.zip m).getD i p0).2) (fun i => ((wipe σ vs).set j (some (r ((l.zip m).getD i p0).1))).set k (some (s ((l.zip m).getD i p0).2))) hD
      (by simp; omega) (fun H' e' => ⟨ex_l e' sa, ex_l e' sb⟩) ?_ (fun i _ => hw _ _) (fun _ _ => et_yes) ?_ fun H' e' h' => q D H' (fresh_back e1 hD) (e1.trans e') ?_
    · rintro i x H2 H3 hi e2 ⟨T, x1, y1, rfl, hT, rfl, hx, hy⟩
      refine ⟨Ex.new hT, fun Q kk => ?_⟩
      obtain ⟨x2, y2, _, h3, h4, h5⟩ := get i hi
      have hx : (l.map r)[i]? = some x1 := hx
      have hy : (m.map s)[i]? = some y1 := hy
      rw [List.getElem?_map, h3] at hx
      rw [List.getElem?_map, h4] at hy
      cases hx
      cases hy
      refine ⟨T, _, rfl, st_of upd_same, rfl, _, _, rfl, _, _, rfl, rfl, ?_⟩
      have := kk _ (Ex.refl _)
      rw [h5] at this
      exact this
    · intro i hi _
      obtain ⟨x2, y2, h2, _, _, h5⟩ := get i hi
      rw [h5]
      exact he x2 y2 H1 (e.trans e1) (List.mem_of_getElem? h2)
    · rw [h']
      congr 2
      refine given_map (fun _ _ => rfl) fun i p hp => ?_
      rw [List.getD_eq_getElem?_getD, hp]
      rfl⟩
/-! ### promises that hand back a value, a new list -/
def spV (R : List V → Hp → V → Prop) : Sp := fun vs H Q _ => ∃ z, R vs H z ∧ RetV z H Q
def spL (R : List V → Hp → List V → Prop) : Sp := fun vs H Q _ => ∃ xs, R vs H xs ∧ RetL xs H Q
theorem ev_cd {R : List V → Hp → V → Prop} {E : XK} {tz : TA} {vs : List V} (h : EvA tz σ H vs) (r : ∀ H1, Ex H H1 → R vs H1 z) : Ev (tCall (spV R) [] E tz) σ H z :=
  ev_call h fun H1 e Q q E => by
    rw [List.append_nil]
    exact ⟨z, r H1 e, q⟩
theorem el_cd {R : List V → Hp → List V → Prop} {E : XK} {tz : TA} {vs : List V} (h : EvA tz σ H vs) (r : ∀ H1, Ex H H1 → R vs H1 xs) : EvL (tCall (spL R) [] E tz) σ H xs :=
  el_call h fun H1 e Q q E => by
    rw [List.append_nil]
    exact ⟨xs, r H1 e, q⟩
theorem ev_mt {R : List V → Hp → V → Prop} {E : XK} {tz : TA} {a C dx : Addr} {fs : List (Str × V)} {m : Str} {vs : List V} (ho : Ev ta σ H (.ref a)) (hi : H a = some (.ins C dx fs)) (hl : fs.lookup m = none) (h : EvA tz σ H vs) (r : ∀ H1, Ex H H1 → R (.ref a :: vs) H1 z) :
    Ev (tMeth C m (spV R) [] E ta tz) σ H z := fun H1 e Q q => ho H1 e _ fun H2 e2 => ⟨a, dx, fs, rfl, e2 _ _ (e _ _ hi), hl, h H2 (e.trans e2) _ fun H3 e3 => by
    rw [List.append_nil]
    exact ⟨z, r H3 ((e.trans e2).trans e3), fun H4 e4 => q H4 ((e2.trans e3).trans e4)⟩⟩
theorem el_mt {R : List V → Hp → List V → Prop} {E : XK} {tz : TA} {a C dx : Addr} {fs : List (Str × V)} {m : Str} {vs : List V} (ho : Ev ta σ H (.ref a)) (hi : H a = some (.ins C dx fs)) (hl : fs.lookup m = none) (h : EvA tz σ H vs) (r : ∀ H1, Ex H H1 → R (.ref a :: vs) H1 xs) :
    EvL (tMeth C m (spL R) [] E ta tz) σ H xs := fun H1 e Q q => ho H1 e _ fun H2 e2 => ⟨a, dx, fs, rfl, e2 _ _ (e _ _ hi), hl, h H2 (e.trans e2) _ fun H3 e3 => by
    rw [List.append_nil]
    exact ⟨xs, r H3 ((e.trans e2).trans e3), fun p H4 hp e4 h4 => q p H4 (fresh_back (e2.trans e3) hp) ((e2.trans e3).trans e4) h4⟩⟩
end
end Ps
namespace Ps
open PySem PySem.Spec PyProof.Rows L2 Evl
theorem cut_from (xs : List V) (i : Nat) : cutV xs (some (i : Int)) none = xs.drop i := by
  unfold cutV
  rw [HT.sIx_nat, HT.sIx_none]
  by_cases h : i ≤ xs.length
  · rw [Nat.min_eq_left h, List.take_of_length_le (by rw [List.length_drop]; omega)]
  · rw [Nat.min_eq_right (by omega), List.drop_of_length_le (Nat.le_refl _), List.drop_of_length_le (by omega)]
    simp
theorem cut_fromto (xs : List V) (i j : Nat) : cutV xs (some (i : Int)) (some (j : Int)) = (xs.drop i).take (j - i) := by
  unfold cutV
  rw [HT.sIx_nat, HT.sIx_nat]
  by_cases h : i ≤ xs.length
  · rw [Nat.min_eq_left h]
    by_cases h2 : j ≤ xs.length
    · rw [Nat.min_eq_left h2]
    · rw [Nat.min_eq_right (by omega), List.take_of_length_le (by rw [List.length_drop]; omega), List.take_of_length_le (by rw [List.length_drop]; omega)]
  · rw [Nat.min_eq_right (show xs.length ≤ i by omega), List.drop_of_length_le (Nat.le_refl _), List.drop_of_length_le (show xs.length ≤ i by omega)]
    simp
end Ps
end

section
/-! What holds of every page that the calls can reach. -/
namespace Ps
open Kp430
structure CandOk (c : Candidate) : Prop where
  sc : c.score ≤ 10000
  gr : c.group < 6
  cr : c.creator ≤ 1000
  ag : c.age ≤ 10000
  tp : validTopics c.topics = true
structure Wf (p : Page) : Prop where
  w1 : 1 ≤ p.weights.length
  w5 : p.weights.length ≤ 5
  wr : ∀ w ∈ p.weights, 1 ≤ w ∧ w ≤ 1000
  wd : validWeights p.weights = true
  cn : p.candidates.length ≤ 9
  cs : ∀ c ∈ p.candidates, CandOk c
  qn : p.quotas.length = 6
  qs : ∀ q ∈ p.quotas, q.lower ≤ q.upper ∧ q.upper ≤ 5
  lm : 1 ≤ p.creatorLimit ∧ p.creatorLimit ≤ 5
  sp : 1 ≤ p.spacing ∧ p.spacing ≤ 5
  fa : p.freshAge ≤ 10000
  lf : p.leastFresh ≤ p.weights.length
  dv : p.diversity ≤ 100000
  fb : ∀ x ∈ p.forbidden, x.1 < x.2 ∧ x.2 < p.candidates.length
  fd : p.forbidden.Nodup
  pn : p.pins.length = p.weights.length
  pc : ∀ c, some c ∈ p.pins → c < p.candidates.length
  pd : ∀ (i j c : Nat), p.pins[i]? = some (some c) → p.pins[j]? = some (some c) → i = j
def WfS (s : State) : Prop := ∀ p, s = some p → Wf p
theorem wf_start : WfS Kp430.start := fun _ h => nomatch h
theorem mem_set_of {α : Type} {l : List α} {i : Nat} {a x : α} (h : x ∈ l.set i a) : x = a ∨ x ∈ l := by
  rcases List.mem_or_eq_of_mem_set h with h | h
  · exact .inr h
  · exact .inl h
theorem at_ok {p : Page} (w : Wf p) {c : Nat} (h : c < p.candidates.length) : CandOk (at_ p c) := by
  have e : at_ p c = p.candidates[c] := by
    unfold at_
    rw [List.getD_eq_getElem?_getD, List.getElem?_eq_getElem h]
    rfl
  rw [e]
  exact w.cs _ (List.getElem_mem h)
theorem wf_create {l : List Nat} (h : (decide (1 ≤ l.length) && decide (l.length ≤ maxPositions) && l.all (fun w => decide (1 ≤ w) && decide (w ≤ 1000)) && validWeights l) = true) :
    Wf ⟨l, [], List.replicate groupCount ⟨0, maxPositions⟩, maxPositions, 1, 0, 0, 0, [], List.replicate l.length none⟩ := by
  simp only [Bool.and_eq_true, decide_eq_true_eq, List.all_eq_true] at h
  obtain ⟨⟨⟨h1, h2⟩, h3⟩, h4⟩ := h
  refine ⟨h1, h2, h3, h4, Nat.zero_le _, (fun _ h => nomatch h), rfl, ?_, ⟨by show 1 ≤ 5; decide, by show 5 ≤ 5; decide⟩, ⟨by show 1 ≤ 1; decide, by show 1 ≤ 5; decide⟩, Nat.zero_le _, Nat.zero_le _, Nat.zero_le _, (fun _ h => nomatch h), List.nodup_nil, List.length_replicate, ?_, ?_⟩
  · intro q hq
    rw [List.eq_of_mem_replicate hq]
    simp [maxPositions]
  · intro c hc
    have := List.eq_of_mem_replicate hc
    cases this
  · intro i j c h5
    have := List.eq_of_mem_replicate (List.mem_of_getElem? h5)
    cases this
theorem wf_add {p : Page} (w : Wf p) {s g k a : Nat} {l : List Nat} (h : (decide (s ≤ 10000) && decide (g < groupCount) && decide (k ≤ 1000) && decide (a ≤ 10000) && validTopics l) = true) (h9 : p.candidates.length < 9) :
    Wf { p with candidates := p.candidates ++ [⟨s, g, k, a, l⟩] } := by
  simp only [Bool.and_eq_true, decide_eq_true_eq] at h
  obtain ⟨⟨⟨⟨h1, h2⟩, h3⟩, h4⟩, h5⟩ := h
  refine { w with cn := ?_, cs := ?_, fb := ?_, pc := ?_ }
  · simp; omega
  · intro c hc
    rcases List.mem_append.mp hc with hc | hc
    · exact w.cs c hc
    · rw [List.mem_singleton] at hc
      subst hc
      exact ⟨h1, h2, h3, h4, h5⟩
  · intro x hx
    have := w.fb x hx
    simp
    omega
  · intro c hc
    have := w.pc c hc
    simp
    omega
theorem wf_score {p : Page} (w : Wf p) {c s : Nat} (hc : c < p.candidates.length) (hs : s ≤ 10000) : Wf { p with candidates := p.candidates.set c { at_ p c with score := s } } := by
  refine { w with cn := ?_, cs := ?_, fb := ?_, pc := ?_ }
  · simp; exact w.cn
  · intro x hx
    rcases mem_set_of hx with rfl | hx
    · have o := at_ok w hc
      exact ⟨hs, o.gr, o.cr, o.ag, o.tp⟩
    · exact w.cs x hx
  · simpa using w.fb
  · simpa using w.pc
theorem wf_quota {p : Page} (w : Wf p) {g a b : Nat} (h : (decide (g < groupCount) && decide (a ≤ b) && decide (b ≤ maxPositions)) = true) : Wf { p with quotas := p.quotas.set g ⟨a, b⟩ } := by
  simp only [Bool.and_eq_true, decide_eq_true_eq] at h
  refine { w with qn := ?_, qs := ?_ }
  · simp; exact w.qn
  · intro q hq
    rcases mem_set_of hq with rfl | hq
    · exact ⟨h.1.2, h.2⟩
    · exact w.qs q hq
theorem wf_forbid {p : Page} (w : Wf p) {a b : Nat} (ha : a < p.candidates.length) (hb : b < p.candidates.length) (hn : a ≠ b) (hf : orderPair a b ∉ p.forbidden) : Wf { p with forbidden := p.forbidden ++ [orderPair a b] } := by
  refine { w with fb := ?_, fd := ?_ }
  · intro x hx
    rcases List.mem_append.mp hx with hx | hx
    · exact w.fb x hx
    · rw [List.mem_singleton] at hx
      subst hx
      simp only [orderPair]
      omega
  · rw [List.nodup_append]
    refine ⟨w.fd, by simp, fun x hx y hy => ?_⟩
    rw [List.mem_singleton] at hy
    subst hy
    rintro rfl
    exact hf hx
theorem wf_allow {p : Page} (w : Wf p) (f : Nat × Nat → Bool) : Wf { p with forbidden := p.forbidden.filter f } := by
  refine { w with fb := ?_, fd := ?_ }
  · intro x hx
    exact w.fb x (List.mem_filter.mp hx).1
  · exact w.fd.sublist List.filter_sublist
theorem wf_pin {p : Page} (w : Wf p) {k c : Nat} (hc : c < p.candidates.length) (h : ∀ j : Nat, j ≠ k → p.pins[j]? ≠ some (some c)) : Wf { p with pins := p.pins.set k (some c) } := by
  refine { w with pn := ?_, pc := ?_, pd := ?_ }
  · simp; exact w.pn
  · intro d hd
    rcases mem_set_of hd with e | hd
    · cases e
      exact hc
    · exact w.pc d hd
  · intro i j d hi hj
    have key : ∀ i : Nat, (p.pins.set k (some c))[i]? = some (some d) → (i = k ∧ d = c) ∨ (i ≠ k ∧ p.pins[i]? = some (some d)) := by
      intro i hi
      rw [List.getElem?_set] at hi
      by_cases e : k = i
      · rw [if_pos e] at hi
        split at hi
        · cases hi
          exact .inl ⟨e.symm, rfl⟩
        · cases hi
      · rw [if_neg e] at hi
        exact .inr ⟨fun z => e z.symm, hi⟩
    rcases key i hi with ⟨e1, e2⟩ | ⟨n1, e1⟩
    · rcases key j hj with ⟨e3, _⟩ | ⟨n3, e3⟩
      · rw [e1, e3]
      · rw [e2] at e3
        exact absurd e3 (h j n3)
    · rcases key j hj with ⟨e3, e4⟩ | ⟨n3, e3⟩
      · rw [e4] at e1
        exact absurd e1 (h i n1)
      · exact w.pd i j d e1 e3
theorem wf_unpin {p : Page} (w : Wf p) (k : Nat) : Wf { p with pins := p.pins.set k none } := by
  refine { w with pn := ?_, pc := ?_, pd := ?_ }
  · simp; exact w.pn
  · intro d hd
    rcases mem_set_of hd with e | hd
    · cases e
    · exact w.pc d hd
  · intro i j d hi hj
    have key : ∀ i : Nat, (p.pins.set k none)[i]? = some (some d) → p.pins[i]? = some (some d) := by
      intro i hi
      rw [List.getElem?_set] at hi
      split at hi
      · split at hi <;> cases hi
      · exact hi
    exact w.pd i j d (key i hi) (key j hj)
theorem wf_step {s : State} (w : WfS s) (c : Call) : WfS (step s c).1 := by
  cases s with
  | none =>
    cases c <;> first | exact w | skip
    case create l =>
      intro q hq
      unfold step at hq
      dsimp only at hq
      split at hq
      · cases hq
      · rename_i h
        cases hq
        exact wf_create (eq_true_of_ne_false h)
  | some p =>
    have wp := w p rfl
    intro q hq
    cases c <;> (unfold step at hq; dsimp only at hq)
    case create l =>
      split at hq
      · cases hq
        exact wp
      · rename_i h
        cases hq
        exact wf_create (eq_true_of_ne_false h)
    case addCandidate s g k a l =>
      split at hq
      · cases hq; exact wp
      · rename_i h
        split at hq
        · cases hq; exact wp
        · rename_i h9
          cases hq
          exact wf_add wp (eq_true_of_ne_false h) (Nat.lt_of_not_le h9)
    case setScore c s =>
      split at hq
      · cases hq; exact wp
      · rename_i h
        split at hq
        · cases hq; exact wp
        · rename_i h2
          cases hq
          exact wf_score wp (by simpa [hasCandidate] using h) (by omega)
    case setQuota g a b =>
      split at hq
      · cases hq; exact wp
      · rename_i h
        cases hq
        exact wf_quota wp (eq_true_of_ne_false h)
    case setCreators a b =>
      split at hq
      · cases hq; exact wp
      · rename_i h
        have h := eq_true_of_ne_false h
        simp only [Bool.and_eq_true, decide_eq_true_eq] at h
        cases hq
        exact { wp with lm := ⟨h.1.1.1, h.1.1.2⟩, sp := ⟨h.1.2, h.2⟩ }
    case setFreshness a n =>
      split at hq
      · cases hq; exact wp
      · rename_i h
        have h := eq_true_of_ne_false h
        simp only [Bool.and_eq_true, decide_eq_true_eq] at h
        cases hq
        exact { wp with fa := h.1, lf := h.2 }
    case setDiversity v =>
      split at hq
      · cases hq; exact wp
      · cases hq
        exact { wp with dv := by show v ≤ 100000; omega }
    case forbid a b =>
      split at hq
      · cases hq; exact wp
      · rename_i h
        simp [hasCandidate] at h
        split at hq
        · cases hq; exact wp
        · split at hq
          · cases hq; exact wp
          · rename_i h3
            cases hq
            exact wf_forbid wp h.1 h.2 (by assumption) (by simpa using h3)
    case allow a b =>
      split at hq
      · cases hq; exact wp
      · split at hq
        · cases hq
          exact wf_allow wp _
        · cases hq; exact wp
    case pin k c =>
      split at hq
      · cases hq; exact wp
      · rename_i h
        split at hq
        · cases hq; exact wp
        · rename_i hk
          split at hq
          · cases hq; exact wp
          · rename_i h3
            cases hq
            simp [hasCandidate, positions] at h hk
            refine wf_pin wp h fun j hj e => ?_
            apply h3
            have hl : j < p.weights.length := by rw [← wp.pn]; exact (List.getElem?_eq_some_iff.mp e).1
            simp only [List.any_eq_true, List.mem_range, positions]
            exact ⟨j, hl, by simp [hj, pinAt, e]⟩
    case unpin k =>
      split at hq
      · cases hq; exact wp
      · split at hq
        · cases hq; exact wp
        · cases hq
          exact wf_unpin wp k
    all_goals (cases hq; exact wp)
end Ps
end

section
/-! Plain mathematics: the program's own ways of saying what the specification says. -/
namespace Ps
open Kp430
theorem valid_zip : ∀ l : List Nat, validWeights l = (l.zip (l.drop 1)).all fun p => decide (p.2 ≤ p.1)
  | [] => rfl
  | [_] => rfl
  | a :: b :: r => by
    have ih := valid_zip (b :: r)
    show (decide (b ≤ a) && validWeights (b :: r)) = _
    rw [ih]
    rfl
theorem incr_zip : ∀ l : List Nat, increasing l = (l.zip (l.drop 1)).all fun p => decide (p.1 < p.2)
  | [] => rfl
  | [_] => rfl
  | a :: b :: r => by
    have ih := incr_zip (b :: r)
    show (decide (a < b) && increasing (b :: r)) = _
    rw [ih]
    rfl
theorem incr_cons {a : Nat} {l : List Nat} (h : increasing (a :: l) = true) : increasing l = true ∧ ∀ x ∈ l, a < x := by
  induction l generalizing a with
  | nil => exact ⟨rfl, fun _ h => nomatch h⟩
  | cons b r ih =>
    have h' : (decide (a < b) && increasing (b :: r)) = true := h
    rw [Bool.and_eq_true, decide_eq_true_eq] at h'
    obtain ⟨_, h2⟩ := ih h'.2
    refine ⟨h'.2, fun x hx => ?_⟩
    rcases List.mem_cons.mp hx with rfl | hx
    · exact h'.1
    · exact Nat.lt_trans h'.1 (h2 x hx)
theorem incr_nodup : ∀ {l : List Nat}, increasing l = true → l.Nodup
  | [], _ => List.nodup_nil
  | a :: l, h => List.nodup_cons.mpr ⟨fun m => Nat.lt_irrefl _ ((incr_cons h).2 a m), incr_nodup (incr_cons h).1⟩
theorem incr_len {n : Nat} : ∀ {l : List Nat} {b : Nat}, increasing l = true → (∀ x ∈ l, b ≤ x ∧ x < n) → l.length + b ≤ n ∨ l = []
  | [], _, _, _ => .inr rfl
  | a :: l, b, hi, h => by
    obtain ⟨h1, h2⟩ := incr_cons hi
    have ha := h a (List.mem_cons_self ..)
    rcases incr_len (b := a + 1) h1 (fun x hx => ⟨h2 x hx, (h x (List.mem_cons_of_mem _ hx)).2⟩) with h3 | h3
    · left
      rw [List.length_cons]
      omega
    · left
      rw [h3]
      show 0 + 1 + b ≤ n
      omega
theorem topics_few {l : List Nat} (h1 : l.all (fun t => decide (t < topicCount)) = true) (h2 : increasing l = true) : l.length ≤ topicCount := by
  rw [List.all_eq_true] at h1
  rcases incr_len (n := topicCount) (b := 0) h2 (fun x hx => ⟨Nat.zero_le _, of_decide_eq_true (h1 x hx)⟩) with h3 | h3
  · exact h3
  · rw [h3]; exact Nat.zero_le _
theorem topics_is (l : List Nat) : validTopics l = (l.all (fun t => decide (t < topicCount)) && increasing l) := by
  unfold validTopics
  cases h1 : l.all (fun t => decide (t < topicCount)) with
  | false => simp
  | true =>
    cases h2 : increasing l with
    | false => simp
    | true => simp [topics_few h1 h2]
end Ps
namespace Ps
open Kp430
/-! ### coverage by a growing list -/
def addT (ts : List Nat) (t : Nat) : List Nat := if t ∈ ts then ts else ts ++ [t]
def covFold (p : Page) (ts : List Nat) (s : List Nat) : List Nat := s.foldl (fun ts c => (at_ p c).topics.foldl addT ts) ts
theorem addT_nodup {ts : List Nat} (h : ts.Nodup) (t : Nat) : (addT ts t).Nodup := by
  unfold addT
  split
  · exact h
  · rename_i hn
    rw [List.nodup_append]
    exact ⟨h, by simp, fun x hx y hy => by rw [List.mem_singleton] at hy; subst hy; rintro rfl; exact hn hx⟩
theorem addT_mem {ts : List Nat} {t x : Nat} : x ∈ addT ts t ↔ x ∈ ts ∨ x = t := by
  unfold addT
  split
  · rename_i h
    exact ⟨.inl, fun q => q.elim id fun e => e ▸ h⟩
  · simp
theorem addAll {l : List Nat} : ∀ {ts : List Nat}, ts.Nodup → (l.foldl addT ts).Nodup ∧ ∀ x, x ∈ l.foldl addT ts ↔ x ∈ ts ∨ x ∈ l := by
  induction l with
  | nil => intro ts h; exact ⟨h, fun x => by simp⟩
  | cons a l ih =>
    intro ts h
    obtain ⟨h1, h2⟩ := ih (addT_nodup h a)
    refine ⟨h1, fun x => ?_⟩
    rw [List.foldl_cons, h2, addT_mem, List.mem_cons, or_assoc]
theorem covFold_ok (p : Page) {s : List Nat} : ∀ {ts : List Nat}, ts.Nodup → (covFold p ts s).Nodup ∧ ∀ x, x ∈ covFold p ts s ↔ x ∈ ts ∨ ∃ c ∈ s, x ∈ (at_ p c).topics := by
  induction s with
  | nil => intro ts h; exact ⟨h, fun x => by simp [covFold]⟩
  | cons a l ih =>
    intro ts h
    obtain ⟨h1, h2⟩ := addAll (l := (at_ p a).topics) h
    obtain ⟨h3, h4⟩ := ih h1
    refine ⟨h3, fun x => ?_⟩
    have e : covFold p ts (a :: l) = covFold p ((at_ p a).topics.foldl addT ts) l := rfl
    rw [e, h4, h2]
    simp only [List.mem_cons, exists_eq_or_imp, or_assoc]
theorem cov_len {p : Page} {s : List Nat} (h : ∀ c ∈ s, ∀ t ∈ (at_ p c).topics, t < topicCount) : (covFold p [] s).length = (covered p s).length := by
  obtain ⟨h1, h2⟩ := covFold_ok p (s := s) List.nodup_nil
  refine ((List.perm_ext_iff_of_nodup h1 ?_).mpr fun x => ?_).length_eq
  · exact List.Nodup.sublist List.filter_sublist List.nodup_range
  · rw [h2]
    unfold covered
    rw [List.mem_filter, List.mem_range, List.any_eq_true]
    simp only [List.not_mem_nil, false_or, List.contains_eq_mem, decide_eq_true_eq]
    exact ⟨fun ⟨c, hc, hx⟩ => ⟨h c hc x hx, c, hc, hx⟩, fun ⟨_, q⟩ => q⟩
theorem topics_lt {p : Page} (w : Wf p) {c : Nat} (hc : c < p.candidates.length) : ∀ t ∈ (at_ p c).topics, t < topicCount := by
  have h := (at_ok w hc).tp
  rw [topics_is, Bool.and_eq_true, List.all_eq_true] at h
  exact fun t ht => of_decide_eq_true (h.1 t ht)
theorem topics_len {p : Page} (w : Wf p) {c : Nat} (hc : c < p.candidates.length) : (at_ p c).topics.length ≤ 12 := by
  have h := (at_ok w hc).tp
  unfold validTopics at h
  rw [Bool.and_eq_true, Bool.and_eq_true] at h
  exact of_decide_eq_true h.1.1
theorem cast_sum (l : List Nat) : (l.map fun n : Nat => (n : Int)).sum = ((l.sum : Nat) : Int) := by
  induction l with
  | nil => rfl
  | cons a l ih => rw [List.map_cons, List.sum_cons, List.sum_cons, ih]; omega
theorem covered_le (p : Page) (s : List Nat) : (covered p s).length ≤ 12 := by
  unfold covered
  refine Nat.le_trans (List.length_filter_le _ _) ?_
  rw [List.length_range]
  exact Nat.le_refl _
end Ps
namespace Ps
open Kp430
/-- the pins of a slate or a beginning -/
def pinTest (p : Page) (s : List Nat) (k : Nat) : Bool := match pinAt p k with
  | none => false
  | some c => s[k]? != some c
def pinV (p : Page) (s : List Nat) : Option (List Nat) := ((List.range s.length).find? (pinTest p s)).map fun k => [1, k, 0]
theorem pinV_slate {p : Page} {s : List Nat} (h : s.length = positions p) : pinV p s = pinViolation p s := by
  unfold pinV pinViolation
  rw [h]
  rfl
theorem pinV_none {p : Page} {s : List Nat} : (pinV p s).isNone = ((List.range s.length).all fun k => match pinAt p k with
  | none => true
  | some c => s[k]? == some c) := by
  unfold pinV
  rw [Option.isNone_map, Bool.eq_iff_iff, Option.isNone_iff_eq_none, List.find?_eq_none, List.all_eq_true]
  refine forall_congr' fun k => ⟨fun h hk => ?_, fun h hk => ?_⟩
  · have := h hk
    unfold pinTest at this
    split
    · rfl
    · rename_i c e
      rw [e] at this
      simpa using this
  · have := h hk
    unfold pinTest
    split at this
    · decide
    · simpa using this
theorem count_step (p : Page) (s : List Nat) (c g : Nat) : countGroup p (s ++ [c]) g = countGroup p s g + if (at_ p c).group = g then 1 else 0 := by
  unfold countGroup
  rw [List.countP_append, List.countP_singleton]
  simp only [beq_iff_eq]
theorem find_map_fst {n : Nat} (f : Nat → Bool) (k : Nat) (h : (List.range n).find? f = some k) : k < n ∧ f k = true := by
  rw [List.find?_range_eq_some] at h
  exact ⟨List.mem_range.mp h.2.1, h.1⟩
theorem find_list {α : Type} (l : List α) (f : α → Bool) (t : Nat → Bool) (h : ∀ (i : Nat) (a : α), l[i]? = some a → t i = f a) : l.find? f = ((List.range l.length).find? t).bind fun i => l[i]? := by
  cases e : (List.range l.length).find? t with
  | none =>
    rw [List.find?_eq_none] at e
    show _ = none
    rw [List.find?_eq_none]
    intro a ha hf
    obtain ⟨i, hi, rfl⟩ := List.getElem_of_mem ha
    exact e i (List.mem_range.mpr hi) (by rw [h i _ (List.getElem?_eq_getElem hi)]; exact hf)
  | some k =>
    rw [List.find?_range_eq_some] at e
    have hk := List.mem_range.mp e.2.1
    show _ = l[k]?
    rw [List.getElem?_eq_getElem hk, List.find?_eq_some_iff_getElem]
    refine ⟨by rw [← h k _ (List.getElem?_eq_getElem hk)]; exact e.1, k, hk, rfl, fun j hj => ?_⟩
    have := e.2.2 j hj
    rw [h j _ (List.getElem?_eq_getElem (by omega))] at this
    exact this
end Ps
namespace Ps
open Kp430
/-- two of the same creator too near, by the later one -/
def nearTest (p : Page) (s : List Nat) (i j : Nat) : Bool := (at_ p (s.getD i 0)).creator == (at_ p (s.getD (i + 1 + j) 0)).creator
def nearHi (p : Page) (s : List Nat) (i : Nat) : Nat := min s.length (i + p.spacing)
def nearIn (p : Page) (s : List Nat) (i : Nat) : Option Nat := (List.range (nearHi p s i - (i + 1))).find? (nearTest p s i)
theorem range_filter_lt (n i : Nat) : (List.range n).filter (fun j => decide (i < j)) = (List.range (n - (i + 1))).map fun j => i + 1 + j := by
  induction n with
  | zero => simp
  | succ n ih =>
    rw [List.range_succ, List.filter_append, ih, List.filter_cons, List.filter_nil]
    by_cases h : i < n
    · rw [if_pos (by simpa using h), show n + 1 - (i + 1) = (n - (i + 1)) + 1 by omega, List.range_succ, List.map_append]
      congr 1
      simp
      omega
    · rw [if_neg (by simpa using h), show n + 1 - (i + 1) = 0 by omega, show n - (i + 1) = 0 by omega]
      rfl
theorem find_range_take {m n : Nat} {t u : Nat → Bool} (h : ∀ j, j < n → t j = (u j && decide (j < m))) (hm : m ≤ n) : (List.range n).find? t = (List.range m).find? u := by
  cases e : (List.range m).find? u with
  | none =>
    rw [List.find?_eq_none] at e ⊢
    intro j hj
    have hj := List.mem_range.mp hj
    rw [h j hj]
    by_cases q : j < m
    · have := e j (List.mem_range.mpr q)
      simp [this]
    · simp [q]
  | some k =>
    rw [List.find?_range_eq_some] at e ⊢
    have hk := List.mem_range.mp e.2.1
    refine ⟨?_, List.mem_range.mpr (by omega), fun j hj => ?_⟩
    · rw [h k (by omega), e.1, decide_eq_true hk]; rfl
    · have := e.2.2 j hj
      rw [h j (by omega)]
      simp only [Bool.not_eq_true'] at this ⊢
      rw [this]; rfl
theorem near_is (p : Page) (s : List Nat) : nearViolation p s = ((List.range s.length).findSome? fun i => (nearIn p s i).map fun j => [5, i, i + 1 + j]) := by
  unfold nearViolation pairsOf
  rw [List.find?_flatMap, List.map_findSome?]
  congr 1
  funext i
  show Option.map _ (List.find? _ (List.map (fun j => (i, j)) ((List.range s.length).filter fun j => decide (i < j)))) = _
  rw [range_filter_lt, List.map_map, List.find?_map, Option.map_map]
  have : (List.range (s.length - (i + 1))).find? ((fun x : Nat × Nat => (at_ p (s.getD x.1 0)).creator == (at_ p (s.getD x.2 0)).creator && decide (x.2 - x.1 < p.spacing)) ∘ ((fun j => (i, j)) ∘ fun j => i + 1 + j)) = nearIn p s i := by
    unfold nearIn
    refine find_range_take (fun j hj => ?_) (by unfold nearHi; omega)
    simp only [Function.comp]
    unfold nearTest nearHi
    congr 1
    apply decide_eq_decide.mpr
    omega
  rw [this]
  rfl
theorem findSome_range {β : Type} {n : Nat} {F : Nat → Option β} : (List.range n).findSome? F = ((List.range n).find? fun i => (F i).isSome).bind F := by
  induction (List.range n) with
  | nil => rfl
  | cons a l ih =>
    rw [List.findSome?_cons, List.find?_cons]
    cases h : F a with
    | none => simp [ih]
    | some b => simp [h]
theorem creator_is (p : Page) (s : List Nat) : creatorViolation p s = ((List.range s.length).find? fun i => decide (p.creatorLimit < (s.map fun c => (at_ p c).creator).count (at_ p (s.getD i 0)).creator)).map fun i => [4, (at_ p (s.getD i 0)).creator, 0] := by
  unfold creatorViolation
  rw [find_list s _ (fun i => decide (p.creatorLimit < (s.map fun c => (at_ p c).creator).count (at_ p (s.getD i 0)).creator)) (fun i a h => ?_)]
  · cases e : (List.range s.length).find? fun i => decide (p.creatorLimit < (s.map fun c => (at_ p c).creator).count (at_ p (s.getD i 0)).creator) with
    | none => rfl
    | some k =>
      have hk := (find_map_fst _ _ e).1
      simp [List.getD_eq_getElem?_getD, List.getElem?_eq_getElem hk]
  · rw [List.getD_eq_getElem?_getD, h]
    congr 2
    rw [List.count, List.countP_map]
    rfl
theorem fresh_is (p : Page) (s : List Nat) : (s.filter (isFresh p)).length = ((s.map fun c => (at_ p c).age).filter fun a => decide (a ≤ p.freshAge)).length := by
  rw [List.filter_map, List.length_map]
  rfl
end Ps
namespace Ps
open Kp430
theorem zip_more {α β : Type} : ∀ (ws : List α) (l m : List β), ∃ r, ws.zip (l ++ m) = ws.zip l ++ r
  | [], l, m => ⟨[], by simp⟩
  | w :: ws, [], m => ⟨(w :: ws).zip m, by simp⟩
  | w :: ws, a :: l, m => by
    obtain ⟨r, h⟩ := zip_more ws l m
    exact ⟨r, by simp [h]⟩
theorem rel_mono (p : Page) (s m : List Nat) : relevance p s ≤ relevance p (s ++ m) := by
  unfold relevance
  obtain ⟨r, h⟩ := zip_more p.weights s m
  rw [h, List.map_append, List.sum_append]
  exact Nat.le_add_right _ _
theorem cov_mono (p : Page) (s m : List Nat) : (covered p s).length ≤ (covered p (s ++ m)).length := by
  unfold covered
  rw [← List.countP_eq_length_filter, ← List.countP_eq_length_filter]
  refine List.countP_mono_left fun t _ h => ?_
  rw [List.any_append, h]
  rfl
theorem val_mono (p : Page) (s m : List Nat) : value p s ≤ value p (s ++ m) := by
  unfold value
  exact Nat.add_le_add (rel_mono p s m) (Nat.mul_le_mul_left _ (cov_mono p s m))
end Ps
end

section
set_option maxRecDepth 100000
set_option maxHeartbeats 2000000
namespace Ps
open PySem PySem.Spec PyProof.Rows L2 Evl
/-! Rules that the hand layer lacks. -/
section
variable {X : Cx} {K : PySem.W.Frag}
/-- xs[i] read ahead of a store to it -/
theorem getL (hK : X.K = K := by rfl) : PGet X (rIxL K) := by
  subst hK
  intro pins s σ H o i ov iv Q I ro ri h
  obtain ⟨p, xs, j, z, rfl, rfl, hq, he, q⟩ := h
  cases ro
  obtain ⟨t, rfl⟩ := ri
  obtain ⟨its, r, pl, hz⟩ := I.list hq
  obtain ⟨m, h1, h2, h3, h4, h5⟩ := atI_get he
  obtain ⟨u, eu, ru⟩ := r.get h2
  have hl := r.length
  have hn := line63
  have fin : EP X pins σ Q u s := ⟨z, H, I, ru, q⟩
  by_cases h0 : 0 ≤ j
  · have hj : j.toNat = m := by
      rw [seqIndex_of h0 h5] at h1
      exact Option.some.inj h1
    exact wpAny_getItem_list pl.isList h0 (by omega) (by rw [hj]; simpa using eu) fin
  · have hj : (j + (its.toArray.size : Int)).toNat = m := by
      rw [seqIndex_neg (by omega) h4] at h1
      rw [List.size_toArray, ← hl]
      exact Option.some.inj h1
    exact wpAny_getItem_list_neg pl.isList (by omega) (by rw [List.size_toArray] <;> omega) (by omega) (by rw [hj]; simpa using eu) fin
/-- xs.remove(y), y data of any depth that is there -/
def rRemT (K : PySem.W.Frag) : V → List V → Hp → VK → Prop := fun x vs H Q => ∃ (a : Addr) (xs : List V) (y : V) (d : PyData) (ds : List PyData) (j : Nat), x = .ref a ∧ vs = [y] ∧ H a = some (.lst xs) ∧ DpAll K H xs ds ∧ Dp K H y d ∧
  PyData.plainAll ds = true ∧ d.plain = true ∧ d.depth ≤ 60 ∧ SeqAt.dataPlace ds d = some j ∧ Q .non (upd H a (.lst (xs.eraseIdx j)))
theorem vals_erase : ∀ {xs : List V} {us : List Value} (j : Nat), Vals xs us → Vals (xs.eraseIdx j) (us.eraseIdx j)
  | _, _, _, .nil => .nil
  | _, _, 0, .cons _ t => t
  | _, _, j + 1, .cons r t => .cons r (vals_erase j t)
theorem removeT (hr : X.A.units + 65 < cLine) (hK : X.K = K := by rfl) : MtR X "list.remove" (rRemT K) := by
  subst hK
  intro pins s σ H x vs v us Q I rx rvs h
  obtain ⟨a, xs, y, d, ds, j, rfl, rfl, hH, hall, hy, hp1, hp2, hdep, hpl, q⟩ := h
  cases rx
  obtain ⟨u, rfl, ru⟩ := rvs.one
  obtain ⟨z, its, n, r, hl, e⟩ := I.lstM hH
  obtain ⟨as, r1⟩ := Dp.readsAll I ds xs its hall r
  obtain ⟨bs, r2⟩ := Dp.reads I d y u hy ru
  refine SeqAt.remove_list_data (j := j) (vs := its.toArray) ⟨_, e, rfl, n, rfl⟩ (show ReadsAll s.heap its.toArray.toList ds as from r1) r2 hp1 hp2 (by omega) hpl (by rw [List.size_toArray]; omega) ?_
  refine ⟨.non, _, I.lset (its' := its.eraseIdx j) (t' := s.toks) hH e ?_ (vals_erase j r) ?_, rfl, q⟩
  · show its.toArray.eraseIdxIfInBounds j = (its.eraseIdx j).toArray
    rw [List.eraseIdxIfInBounds_toArray]
  · refine Nat.le_trans (List.Sublist.length_le (List.eraseIdx_sublist _ _)) z
/-- how many different ints -/
def countD (ns : List Int) : Nat := (firstMet (fun i => ns.getD i 0) ns.length).length
def tLenD (K : PySem.W.Frag) (ta : TE) : TE := fun σ H Q => ta σ H fun x H1 => ∃ (l : Addr) (ns : List Int), x = .ref l ∧ SqL K H1 l (ns.map V.int) ∧ ns.length ≤ 4000 ∧ Q (.int (countD ns : Nat)) H1
theorem pe_lenSetD {a : Expr} {ta : TE} {p p2 q pos : Pos} (hm : X.mg "len" = none) (hm2 : X.mg "set" = none) (ha : PE X a ta) (hg : Gl X "len" := by rfl) (hg2 : Gl X "set" := by rfl) (hc : X.calm = true := by rfl)
    (na : starEach [a] X.env = (false, eval a X.env) :: starEach [] X.env := by rfl) (hK : X.K = K := by rfl) : PE X (.Call (.Name "len" p) [.Call (.Name "set" p2) [a] [] q] [] pos) (tLenD K ta) := by
  subst hK
  refine ⟨fun pins s σ H Q I h => ?_⟩
  refine Call_ (ld_blt I hg hm PySem.boot_len (PyProof.Rows.callWith_builtin1 (PyProof.Rows.args_cons ?_ rfl) rfl rfl))
  refine Call_ (ld_blt I hg2 hm2 PyProof.Rows.boot_set (PyProof.Rows.callWith_type1 (PyProof.Rows.args_cons (thn (ha.run pins s σ H _ I h) fun v s1 ⟨x, H1, I1, r1, q1⟩ => PyProof.Rows.args_nil ?_) na) na rfl))
  obtain ⟨l, ns, rfl, hq, hl, q1⟩ := q1
  cases r1
  obtain ⟨its, r, pl, hz⟩ := I1.list hq
  have hlen : its.toArray.size = ns.length := by rw [List.size_toArray, ← r.length, List.length_map]
  refine call_set_list (I1.ok.hd hc) pl.isList (ns := ns) (by simpa using r.ints) (by rw [hlen]; unfold scanBound; omega) fun h' tk hS hk => PyProof.Rows.args_nil ?_
  rw [hlen] at hS
  obtain ⟨o, es, ep, t, ho, hex, hd, _, _, _, hf, hn⟩ := hS
  have I2 : Inv X pins σ H1 { s1 with heap := h', toks := tk } := I1.kept fun b o e => hk b o (Heap.lt_size e) e
  have hle := firstMet_length_le (fun i => ns.getD i 0) ns.length
  exact call_len_set ho hex hd hf (by rw [hn]; omega) ⟨.int (countD ns : Nat), H1, I2.tok _, ⟨_, by rw [hn]; rfl⟩, q1⟩
end
theorem ev_lenD {K : PySem.W.Frag} {te : TE} {σ : L2.St} {H : Hp} {ns : List Int} (h : EvS K te σ H (ns.map V.int)) (hl : ns.length ≤ 4000) : Ev (tLenD K te) σ H (.int (countD ns : Nat)) := fun H1 e Q q => h H1 e _ fun p H2 e2 hs => ⟨p, ns, rfl, hs, hl, q H2 e2⟩
/-! ### different numbers -/
def dedup (l : List Int) : List Int := l.foldl step_dedup []
theorem map_range_getD (ns : List Int) : (List.range ns.length).map (fun i => ns.getD i 0) = ns := by
  refine List.ext_getElem (by simp) fun i h1 h2 => ?_
  simp only [List.getElem_map, List.getElem_range]
  rw [List.getD_eq_getElem?_getD, List.getElem?_eq_getElem h2]
  rfl
theorem countD_eq (ns : List Int) : countD ns = (dedup ns).length := by
  unfold countD firstMet dedup
  rw [map_range_getD]
theorem dedup_len : ∀ (l acc : List Int), acc.Nodup → (l.foldl step_dedup acc).length ≤ acc.length + l.length ∧ ((l.foldl step_dedup acc).length = acc.length + l.length ↔ (acc ++ l).Nodup)
  | [], acc, h => by simp [h]
  | a :: l, acc, h => by
    rw [List.foldl_cons]
    by_cases hm : a ∈ acc
    · rw [show step_dedup acc a = acc from if_pos (show (acc.any (· == a)) = true from List.any_eq_true.mpr ⟨a, hm, beq_self_eq_true a⟩)]
      have ih := dedup_len l acc h
      refine ⟨by rw [List.length_cons]; omega, fun q => ?_, fun q => ?_⟩
      · rw [List.length_cons] at q
        omega
      · rw [List.nodup_append] at q
        exact absurd rfl (q.2.2 a hm a (List.mem_cons_self ..))
    · have hno : ¬ (acc.any (· == a)) = true := fun q => by
        obtain ⟨x, hx, e⟩ := List.any_eq_true.mp q
        exact hm (eq_of_beq e ▸ hx)
      rw [show step_dedup acc a = acc ++ [a] from if_neg hno]
      have hn : (acc ++ [a]).Nodup := by
        rw [List.nodup_append]
        exact ⟨h, by simp, fun x hx y hy => by rw [List.mem_singleton] at hy; subst hy; rintro rfl; exact hm hx⟩
      have ih := dedup_len l (acc ++ [a]) hn
      rw [List.length_append, List.append_assoc] at ih
      rw [List.length_cons]
      simp only [List.length_singleton, List.singleton_append] at ih
      exact ⟨by omega, by rw [← ih.2]; omega⟩
theorem countD_nodup (ns : List Int) : countD ns = ns.length ↔ ns.Nodup := by
  rw [countD_eq]
  have h := (dedup_len ns [] List.nodup_nil).2
  simp only [List.length_nil, Nat.zero_add, List.nil_append] at h
  exact h
theorem erase_len {α : Type} [BEq α] [LawfulBEq α] : ∀ (n : Nat) (l : List α), l.length ≤ n → l.eraseDups.length ≤ l.length
  | 0, l, h => by
    rw [List.length_eq_zero_iff.mp (Nat.le_zero.mp h)]
    simp
  | n + 1, [], _ => by simp
  | n + 1, a :: l, h => by
    rw [List.eraseDups_cons, List.length_cons, List.length_cons]
    have h1 := List.length_filter_le (fun b => !b == a) l
    rw [List.length_cons] at h
    have ih := erase_len n (l.filter fun b => !b == a) (by omega)
    omega
theorem erase_nodup {α : Type} [BEq α] [LawfulBEq α] : ∀ l : List α, l.eraseDups = l ↔ l.Nodup
  | [] => by simp
  | a :: l => by
    rw [List.eraseDups_cons, List.nodup_cons]
    by_cases hm : a ∈ l
    · constructor
      · intro e
        have e2 := (List.cons.inj e).2
        have h1 := erase_len _ (l.filter fun b => !b == a) (Nat.le_refl _)
        have h2 : (l.filter fun b => !b == a).length < l.length := by
          rw [List.length_filter_lt_length_iff_exists]
          exact ⟨a, hm, by simp⟩
        rw [e2] at h1
        omega
      · rintro ⟨h, _⟩
        exact absurd hm h
    · have hf : (l.filter fun b => !b == a) = l := List.filter_eq_self.mpr fun x hx => by
        have : ¬ x = a := fun e => hm (e ▸ hx)
        simp [this]
      rw [hf]
      have ih := erase_nodup l
      constructor
      · intro e
        exact ⟨hm, ih.mp (List.cons.inj e).2⟩
      · rintro ⟨_, h⟩
        rw [ih.mpr h]
theorem erase_beq {α : Type} [BEq α] [LawfulBEq α] [DecidableEq α] (l : List α) : (l.eraseDups == l) = decide l.Nodup := by
  rw [Bool.eq_iff_iff, beq_iff_eq, decide_eq_true_eq]
  exact erase_nodup l
theorem nodup_cast {l : List Nat} : (l.map fun n : Nat => (n : Int)).Nodup ↔ l.Nodup := by
  unfold List.Nodup
  rw [List.pairwise_map]
  exact ⟨fun h => h.imp fun q e => q (by rw [e]), fun h => h.imp fun q e => q (by omega)⟩
end Ps
end

section
set_option maxRecDepth 100000
set_option maxHeartbeats 2000000
namespace Ps
open PySem PySem.Spec PyProof.Rows L2 Evl
open Kp430 (Page Candidate Quota)
/-! How a page lies in the heap. -/
abbrev oV : Option Nat → V
  | none => .non
  | some c => nV c
theorem lk_here {k : Str} {v : V} {r : List (Str × V)} : List.lookup k ((k, v) :: r) = some v := by
  have e : (k == k) = true := beq_self_eq_true k
  simp only [List.lookup, e]
theorem lk_past {k g : Str} {v : V} {r : List (Str × V)} (h : (k == g) = false) : List.lookup k ((g, v) :: r) = List.lookup k r := by
  simp only [List.lookup, h]
theorem pt_here {f : Str} {v x : V} {r : List (Str × V)} : putF f v ((f, x) :: r) = (f, v) :: r := if_pos rfl
theorem pt_past {f g : Str} {v x : V} {r : List (Str × V)} (h : ¬ g = f) : putF f v ((g, x) :: r) = (g, x) :: putF f v r := if_neg h
structure CL where
  at_ : Addr
  dx : Addr
  tp : Addr
structure Lay where
  dx : Addr
  aw : Addr
  ac : Addr
  aq : Addr
  af : Addr
  ap : Addr
  cs : List CL
  qs : List Addr
  fs : List Addr

def pF0 (w c q : Addr) (lm sp fa fl dv : Nat) (f n : Addr) : List (Str × V) := [("weights", .ref w), ("candidates", .ref c), ("quotas", .ref q), ("limit", nV lm), ("spacing", nV sp), ("fresh_age", nV fa), ("fresh_least", nV fl), ("diversity", nV dv), ("forbidden", .ref f), ("pins", .ref n)]

def cF0 (s g k a : Nat) (t : Addr) : List (Str × V) := [("score", nV s), ("group", nV g), ("creator", nV k), ("age", nV a), ("topics", .ref t)]

theorem pF0_weights {w c q : Addr} {lm sp fa fl dv : Nat} {f n : Addr} : (pF0 w c q lm sp fa fl dv f n).lookup ("weights" : Str) = some (V.ref w) := lk_here
theorem pF0_candidates {w c q : Addr} {lm sp fa fl dv : Nat} {f n : Addr} : (pF0 w c q lm sp fa fl dv f n).lookup ("candidates" : Str) = some (V.ref c) := (lk_past (by decide +kernel)).trans (lk_here)
theorem pF0_quotas {w c q : Addr} {lm sp fa fl dv : Nat} {f n : Addr} : (pF0 w c q lm sp fa fl dv f n).lookup ("quotas" : Str) = some (V.ref q) := (lk_past (by decide +kernel)).trans ((lk_past (by decide +kernel)).trans (lk_here))
theorem pF0_limit {w c q : Addr} {lm sp fa fl dv : Nat} {f n : Addr} : (pF0 w c q lm sp fa fl dv f n).lookup ("limit" : Str) = some (nV lm) := (lk_past (by decide +kernel)).trans ((lk_past (by decide +kernel)).trans ((lk_past (by decide +kernel)).trans (lk_here)))
theorem pF0_spacing {w c q : Addr} {lm sp fa fl dv : Nat} {f n : Addr} : (pF0 w c q lm sp fa fl dv f n).lookup ("spacing" : Str) = some (nV sp) := (lk_past (by decide +kernel)).trans ((lk_past (by decide +kernel)).trans ((lk_past (by decide +kernel)).trans ((lk_past (by decide +kernel)).trans (lk_here))))
theorem pF0_fresh_age {w c q : Addr} {lm sp fa fl dv : Nat} {f n : Addr} : (pF0 w c q lm sp fa fl dv f n).lookup ("fresh_age" : Str) = some (nV fa) := (lk_past (by decide +kernel)).trans ((lk_past (by decide +kernel)).trans ((lk_past (by decide +kernel)).trans ((lk_past (by decide +kernel)).trans ((lk_past (by decide +kernel)).trans (lk_here)))))
theorem pF0_fresh_least {w c q : Addr} {lm sp fa fl dv : Nat} {f n : Addr} : (pF0 w c q lm sp fa fl dv f n).lookup ("fresh_least" : Str) = some (nV fl) := (lk_past (by decide +kernel)).trans ((lk_past (by decide +kernel)).trans ((lk_past (by decide +kernel)).trans ((lk_past (by decide +kernel)).trans ((lk_past (by decide +kernel)).trans ((lk_past (by decide +kernel)).trans (lk_here))))))
theorem pF0_diversity {w c q : Addr} {lm sp fa fl dv : Nat} {f n : Addr} : (pF0 w c q lm sp fa fl dv f n).lookup ("diversity" : Str) = some (nV dv) := (lk_past (by decide +kernel)).trans ((lk_past (by decide +kernel)).trans ((lk_past (by decide +kernel)).trans ((lk_past (by decide +kernel)).trans ((lk_past (by decide +kernel)).trans ((lk_past (by decide +kernel)).trans ((lk_past (by decide +kernel)).trans (lk_here)))))))
theorem pF0_forbidden {w c q : Addr} {lm sp fa fl dv : Nat} {f n : Addr} : (pF0 w c q lm sp fa fl dv f n).lookup ("forbidden" : Str) = some (V.ref f) := (lk_past (by decide +kernel)).trans ((lk_past (by decide +kernel)).trans ((lk_past (by decide +kernel)).trans ((lk_past (by decide +kernel)).trans ((lk_past (by decide +kernel)).trans ((lk_past (by decide +kernel)).trans ((lk_past (by decide +kernel)).trans ((lk_past (by decide +kernel)).trans (lk_here))))))))
theorem pF0_pins {w c q : Addr} {lm sp fa fl dv : Nat} {f n : Addr} : (pF0 w c q lm sp fa fl dv f n).lookup ("pins" : Str) = some (V.ref n) := (lk_past (by decide +kernel)).trans ((lk_past (by decide +kernel)).trans ((lk_past (by decide +kernel)).trans ((lk_past (by decide +kernel)).trans ((lk_past (by decide +kernel)).trans ((lk_past (by decide +kernel)).trans ((lk_past (by decide +kernel)).trans ((lk_past (by decide +kernel)).trans ((lk_past (by decide +kernel)).trans (lk_here)))))))))

theorem cF0_score {s g k a : Nat} {t : Addr} : (cF0 s g k a t).lookup ("score" : Str) = some (nV s) := lk_here
theorem cF0_group {s g k a : Nat} {t : Addr} : (cF0 s g k a t).lookup ("group" : Str) = some (nV g) := (lk_past (by decide +kernel)).trans (lk_here)
theorem cF0_creator {s g k a : Nat} {t : Addr} : (cF0 s g k a t).lookup ("creator" : Str) = some (nV k) := (lk_past (by decide +kernel)).trans ((lk_past (by decide +kernel)).trans (lk_here))
theorem cF0_age {s g k a : Nat} {t : Addr} : (cF0 s g k a t).lookup ("age" : Str) = some (nV a) := (lk_past (by decide +kernel)).trans ((lk_past (by decide +kernel)).trans ((lk_past (by decide +kernel)).trans (lk_here)))
theorem cF0_topics {s g k a : Nat} {t : Addr} : (cF0 s g k a t).lookup ("topics" : Str) = some (V.ref t) := (lk_past (by decide +kernel)).trans ((lk_past (by decide +kernel)).trans ((lk_past (by decide +kernel)).trans ((lk_past (by decide +kernel)).trans (lk_here))))

theorem pF0_no_has_candidate {w c q : Addr} {lm sp fa fl dv : Nat} {f n : Addr} : (pF0 w c q lm sp fa fl dv f n).lookup ("has_candidate" : Str) = none := (lk_past (by decide +kernel)).trans ((lk_past (by decide +kernel)).trans ((lk_past (by decide +kernel)).trans ((lk_past (by decide +kernel)).trans ((lk_past (by decide +kernel)).trans ((lk_past (by decide +kernel)).trans ((lk_past (by decide +kernel)).trans ((lk_past (by decide +kernel)).trans ((lk_past (by decide +kernel)).trans ((lk_past (by decide +kernel)).trans (rfl))))))))))

theorem pF0_no_has_position {w c q : Addr} {lm sp fa fl dv : Nat} {f n : Addr} : (pF0 w c q lm sp fa fl dv f n).lookup ("has_position" : Str) = none := (lk_past (by decide +kernel)).trans ((lk_past (by decide +kernel)).trans ((lk_past (by decide +kernel)).trans ((lk_past (by decide +kernel)).trans ((lk_past (by decide +kernel)).trans ((lk_past (by decide +kernel)).trans ((lk_past (by decide +kernel)).trans ((lk_past (by decide +kernel)).trans ((lk_past (by decide +kernel)).trans ((lk_past (by decide +kernel)).trans (rfl))))))))))

theorem pF0_no_is_beginning {w c q : Addr} {lm sp fa fl dv : Nat} {f n : Addr} : (pF0 w c q lm sp fa fl dv f n).lookup ("is_beginning" : Str) = none := (lk_past (by decide +kernel)).trans ((lk_past (by decide +kernel)).trans ((lk_past (by decide +kernel)).trans ((lk_past (by decide +kernel)).trans ((lk_past (by decide +kernel)).trans ((lk_past (by decide +kernel)).trans ((lk_past (by decide +kernel)).trans ((lk_past (by decide +kernel)).trans ((lk_past (by decide +kernel)).trans ((lk_past (by decide +kernel)).trans (rfl))))))))))

theorem pF0_no_is_slate {w c q : Addr} {lm sp fa fl dv : Nat} {f n : Addr} : (pF0 w c q lm sp fa fl dv f n).lookup ("is_slate" : Str) = none := (lk_past (by decide +kernel)).trans ((lk_past (by decide +kernel)).trans ((lk_past (by decide +kernel)).trans ((lk_past (by decide +kernel)).trans ((lk_past (by decide +kernel)).trans ((lk_past (by decide +kernel)).trans ((lk_past (by decide +kernel)).trans ((lk_past (by decide +kernel)).trans ((lk_past (by decide +kernel)).trans ((lk_past (by decide +kernel)).trans (rfl))))))))))

theorem pF0_put_limit {w c q : Addr} {lm sp fa fl dv : Nat} {f n : Addr} {lm' : Nat} : putF ("limit" : Str) (nV lm') (pF0 w c q lm sp fa fl dv f n) = pF0 w c q lm' sp fa fl dv f n := (pt_past (by decide +kernel)).trans (congrArg _ ((pt_past (by decide +kernel)).trans (congrArg _ ((pt_past (by decide +kernel)).trans (congrArg _ (pt_here))))))

theorem pF0_put_spacing {w c q : Addr} {lm sp fa fl dv : Nat} {f n : Addr} {sp' : Nat} : putF ("spacing" : Str) (nV sp') (pF0 w c q lm sp fa fl dv f n) = pF0 w c q lm sp' fa fl dv f n := (pt_past (by decide +kernel)).trans (congrArg _ ((pt_past (by decide +kernel)).trans (congrArg _ ((pt_past (by decide +kernel)).trans (congrArg _ ((pt_past (by decide +kernel)).trans (congrArg _ (pt_here))))))))

theorem pF0_put_fresh_age {w c q : Addr} {lm sp fa fl dv : Nat} {f n : Addr} {fa' : Nat} : putF ("fresh_age" : Str) (nV fa') (pF0 w c q lm sp fa fl dv f n) = pF0 w c q lm sp fa' fl dv f n := (pt_past (by decide +kernel)).trans (congrArg _ ((pt_past (by decide +kernel)).trans (congrArg _ ((pt_past (by decide +kernel)).trans (congrArg _ ((pt_past (by decide +kernel)).trans (congrArg _ ((pt_past (by decide +kernel)).trans (congrArg _ (pt_here))))))))))

theorem pF0_put_fresh_least {w c q : Addr} {lm sp fa fl dv : Nat} {f n : Addr} {fl' : Nat} : putF ("fresh_least" : Str) (nV fl') (pF0 w c q lm sp fa fl dv f n) = pF0 w c q lm sp fa fl' dv f n := (pt_past (by decide +kernel)).trans (congrArg _ ((pt_past (by decide +kernel)).trans (congrArg _ ((pt_past (by decide +kernel)).trans (congrArg _ ((pt_past (by decide +kernel)).trans (congrArg _ ((pt_past (by decide +kernel)).trans (congrArg _ ((pt_past (by decide +kernel)).trans (congrArg _ (pt_here))))))))))))

theorem pF0_put_diversity {w c q : Addr} {lm sp fa fl dv : Nat} {f n : Addr} {dv' : Nat} : putF ("diversity" : Str) (nV dv') (pF0 w c q lm sp fa fl dv f n) = pF0 w c q lm sp fa fl dv' f n := (pt_past (by decide +kernel)).trans (congrArg _ ((pt_past (by decide +kernel)).trans (congrArg _ ((pt_past (by decide +kernel)).trans (congrArg _ ((pt_past (by decide +kernel)).trans (congrArg _ ((pt_past (by decide +kernel)).trans (congrArg _ ((pt_past (by decide +kernel)).trans (congrArg _ ((pt_past (by decide +kernel)).trans (congrArg _ (pt_here))))))))))))))

theorem cF0_put_score {s g k a : Nat} {t : Addr} {s' : Nat} : putF ("score" : Str) (nV s') (cF0 s g k a t) = cF0 s' g k a t := pt_here

abbrev pF (L : Lay) (p : Page) : List (Str × V) := pF0 L.aw L.ac L.aq p.creatorLimit p.spacing p.freshAge p.leastFresh p.diversity L.af L.ap
abbrev cF (k : Candidate) (t : Addr) : List (Str × V) := cF0 k.score k.group k.creator k.age t
structure CandAt (CC : Addr) (H : Hp) (c : CL) (k : Candidate) : Prop where
  ins : H c.at_ = some (.ins CC c.dx (cF k c.tp))
  tps : H c.tp = some (.lst (k.topics.map nV))
structure PageL (CC CP : Addr) (H : Hp) (a : Addr) (L : Lay) (p : Page) : Prop where
  ins : H a = some (.ins CP L.dx (pF L p))
  hw : H L.aw = some (.lst (p.weights.map nV))
  hc : H L.ac = some (.lst (L.cs.map fun c => V.ref c.at_))
  hcl : L.cs.length = p.candidates.length
  hca : ∀ (i : Nat) (c : CL) (k : Candidate), L.cs[i]? = some c → p.candidates[i]? = some k → CandAt CC H c k
  hq : H L.aq = some (.lst (L.qs.map V.ref))
  hql : L.qs.length = p.quotas.length
  hqa : ∀ (i : Nat) (q : Addr) (k : Quota), L.qs[i]? = some q → p.quotas[i]? = some k → H q = some (.tup [nV k.lower, nV k.upper])
  hf : H L.af = some (.lst (L.fs.map V.ref))
  hfl : L.fs.length = p.forbidden.length
  hfa : ∀ (i : Nat) (q : Addr) (k : Nat × Nat), L.fs[i]? = some q → p.forbidden[i]? = some k → H q = some (.tup [nV k.1, nV k.2])
  hp : H L.ap = some (.lst (p.pins.map oV))
open Classical in
/-- the lists that calls bring as rows -/
noncomputable def src (Hs : Hp) : Hp := fun b => if ∃ t x y, Hs t = some (.tup [x, y, .ref b]) then Hs b else none
theorem src_ex {Hs : Hp} : Ex (src Hs) Hs := fun b o h => by
  unfold src at h
  split at h
  · exact h
  · cases h
theorem src_of {Hs : Hp} {t b : Addr} {x y : V} (h : Hs t = some (.tup [x, y, .ref b])) : src Hs b = Hs b := if_pos ⟨t, x, y, h⟩
theorem src_mark {Hs : Hp} {b : Addr} {o : HO} (h : src Hs b = some o) : ∃ t x y, Hs t = some (.tup [x, y, .ref b]) := by
  unfold src at h
  split at h
  · rename_i q; exact q
  · cases h
theorem src_upd {Hs : Hp} {S b : Addr} {o q : HO} (hn : Hs S = none) (h : src Hs b = some o) : src (upd Hs S q) b = some o := by
  obtain ⟨t, x, y, e⟩ := src_mark h
  have ht : t ≠ S := fun z => by rw [z, hn] at e; cases e
  have hb := src_ex _ _ h
  have hb2 : b ≠ S := fun z => by rw [z, hn] at hb; cases hb
  rw [src_of (x := x) (y := y) (by rw [upd_ne ht]; exact e), upd_ne hb2]
  exact hb
theorem src_back {Hs : Hp} {S b : Addr} {o q : HO} (hq : ∀ x y, q ≠ .tup [x, y, .ref b]) (hb : b ≠ S) (h : src (upd Hs S q) b = some o) : src Hs b = some o := by
  obtain ⟨t, x, y, e⟩ := src_mark h
  have h2 := src_ex _ _ h
  rw [upd_ne hb] at h2
  have ht : t ≠ S := fun z => by
    rw [z, upd_same] at e
    exact hq _ _ (Option.some.inj e)
  rw [upd_ne ht] at e
  rw [src_of e]
  exact h2
/-- what the calls' own numbers are (Hs) stands apart from what they change -/
structure Apart (Hs H : Hp) (a : Addr) (L : Lay) (p : Page) : Prop where
  ex : Ex Hs H
  hw : src Hs L.aw = some (.lst (p.weights.map nV))
  ht : ∀ (i : Nat) (c : CL) (k : Candidate), L.cs[i]? = some c → p.candidates[i]? = some k → src Hs c.tp = some (.lst (k.topics.map nV))
  na : Hs a = none
  nl : ∀ b ∈ [L.ac, L.aq, L.af, L.ap], Hs b = none
  nc : ∀ c ∈ L.cs, Hs c.at_ = none
  nd : [L.ac, L.aq, L.af, L.ap].Nodup
  cd : (L.cs.map CL.at_).Nodup
def PageIn (CC CP : Addr) (Hs H : Hp) (a : Addr) (p : Page) : Prop := ∃ L, PageL CC CP H a L p ∧ Apart Hs H a L p
/-- to be read alone -/
def PageAt (CC CP : Addr) (H : Hp) (a : Addr) (p : Page) : Prop := ∃ L, PageL CC CP H a L p
section
variable {CC CP : Addr} {Hs H H' : Hp} {a : Addr} {L : Lay} {p : Page}
theorem CandAt.mono {c : CL} {k : Candidate} (h : CandAt CC H c k) (e : Ex H H') : CandAt CC H' c k := ⟨e _ _ h.ins, e _ _ h.tps⟩
theorem PageL.mono (h : PageL CC CP H a L p) (e : Ex H H') : PageL CC CP H' a L p where
  ins := e _ _ h.ins
  hw := e _ _ h.hw
  hc := e _ _ h.hc
  hcl := h.hcl
  hca := fun i c k h1 h2 => (h.hca i c k h1 h2).mono e
  hq := e _ _ h.hq
  hql := h.hql
  hqa := fun i q k h1 h2 => e _ _ (h.hqa i q k h1 h2)
  hf := e _ _ h.hf
  hfl := h.hfl
  hfa := fun i q k h1 h2 => e _ _ (h.hfa i q k h1 h2)
  hp := e _ _ h.hp
theorem Apart.mono (h : Apart Hs H a L p) (e : Ex H H') : Apart Hs H' a L p := { h with ex := h.ex.trans e }
theorem PageIn.mono (h : PageIn CC CP Hs H a p) (e : Ex H H') : PageIn CC CP Hs H' a p := h.elim fun L h => ⟨L, h.1.mono e, h.2.mono e⟩
theorem PageAt.mono (h : PageAt CC CP H a p) (e : Ex H H') : PageAt CC CP H' a p := h.elim fun L h => ⟨L, h.mono e⟩
theorem PageIn.at_ (h : PageIn CC CP Hs H a p) : PageAt CC CP H a p := h.elim fun L h => ⟨L, h.1⟩
/-- the candidate of a number -/
theorem PageL.cand (h : PageL CC CP H a L p) {c : Nat} (hc : c < p.candidates.length) : ∃ k : CL, L.cs[c]? = some k ∧ CandAt CC H k (Kp430.at_ p c) := by
  have hl : c < L.cs.length := by rw [h.hcl]; exact hc
  refine ⟨L.cs[c], List.getElem?_eq_getElem hl, h.hca c _ _ (List.getElem?_eq_getElem hl) ?_⟩
  unfold Kp430.at_
  rw [List.getD_eq_getElem?_getD, List.getElem?_eq_getElem hc]
  rfl
end
section
variable {K : PySem.W.Frag} {mg : Str → Option Value} {CC CP CS : Addr} {σ : L2.St} {H : Hp} {a : Addr} {L : Lay} {p : Page} {tp tc : TE}

theorem pg_weights (T : Txt K mg CC CP CS) (h : PageL CC CP H a L p) (e : Ev tp σ H (.ref a)) : Ev (tFld K tp "weights") σ H (.ref L.aw) := ev_fld e h.ins T.cPage T.nP_weights pF0_weights

theorem pg_candidates (T : Txt K mg CC CP CS) (h : PageL CC CP H a L p) (e : Ev tp σ H (.ref a)) : Ev (tFld K tp "candidates") σ H (.ref L.ac) := ev_fld e h.ins T.cPage T.nP_candidates pF0_candidates

theorem pg_quotas (T : Txt K mg CC CP CS) (h : PageL CC CP H a L p) (e : Ev tp σ H (.ref a)) : Ev (tFld K tp "quotas") σ H (.ref L.aq) := ev_fld e h.ins T.cPage T.nP_quotas pF0_quotas

theorem pg_limit (T : Txt K mg CC CP CS) (h : PageL CC CP H a L p) (e : Ev tp σ H (.ref a)) : Ev (tFld K tp "limit") σ H (nV p.creatorLimit) := ev_fld e h.ins T.cPage T.nP_limit pF0_limit

theorem pg_spacing (T : Txt K mg CC CP CS) (h : PageL CC CP H a L p) (e : Ev tp σ H (.ref a)) : Ev (tFld K tp "spacing") σ H (nV p.spacing) := ev_fld e h.ins T.cPage T.nP_spacing pF0_spacing

theorem pg_fresh_age (T : Txt K mg CC CP CS) (h : PageL CC CP H a L p) (e : Ev tp σ H (.ref a)) : Ev (tFld K tp "fresh_age") σ H (nV p.freshAge) := ev_fld e h.ins T.cPage T.nP_fresh_age pF0_fresh_age

theorem pg_fresh_least (T : Txt K mg CC CP CS) (h : PageL CC CP H a L p) (e : Ev tp σ H (.ref a)) : Ev (tFld K tp "fresh_least") σ H (nV p.leastFresh) := ev_fld e h.ins T.cPage T.nP_fresh_least pF0_fresh_least

theorem pg_diversity (T : Txt K mg CC CP CS) (h : PageL CC CP H a L p) (e : Ev tp σ H (.ref a)) : Ev (tFld K tp "diversity") σ H (nV p.diversity) := ev_fld e h.ins T.cPage T.nP_diversity pF0_diversity

theorem pg_forbidden (T : Txt K mg CC CP CS) (h : PageL CC CP H a L p) (e : Ev tp σ H (.ref a)) : Ev (tFld K tp "forbidden") σ H (.ref L.af) := ev_fld e h.ins T.cPage T.nP_forbidden pF0_forbidden

theorem pg_pins (T : Txt K mg CC CP CS) (h : PageL CC CP H a L p) (e : Ev tp σ H (.ref a)) : Ev (tFld K tp "pins") σ H (.ref L.ap) := ev_fld e h.ins T.cPage T.nP_pins pF0_pins

theorem cd_score (T : Txt K mg CC CP CS) {c : CL} {k : Candidate} (h : CandAt CC H c k) (e : Ev tc σ H (.ref c.at_)) : Ev (tFld K tc "score") σ H (nV k.score) := ev_fld e h.ins T.cCandidate T.nC_score cF0_score

theorem cd_group (T : Txt K mg CC CP CS) {c : CL} {k : Candidate} (h : CandAt CC H c k) (e : Ev tc σ H (.ref c.at_)) : Ev (tFld K tc "group") σ H (nV k.group) := ev_fld e h.ins T.cCandidate T.nC_group cF0_group

theorem cd_creator (T : Txt K mg CC CP CS) {c : CL} {k : Candidate} (h : CandAt CC H c k) (e : Ev tc σ H (.ref c.at_)) : Ev (tFld K tc "creator") σ H (nV k.creator) := ev_fld e h.ins T.cCandidate T.nC_creator cF0_creator

theorem cd_age (T : Txt K mg CC CP CS) {c : CL} {k : Candidate} (h : CandAt CC H c k) (e : Ev tc σ H (.ref c.at_)) : Ev (tFld K tc "age") σ H (nV k.age) := ev_fld e h.ins T.cCandidate T.nC_age cF0_age

theorem cd_topics (T : Txt K mg CC CP CS) {c : CL} {k : Candidate} (h : CandAt CC H c k) (e : Ev tc σ H (.ref c.at_)) : Ev (tFld K tc "topics") σ H (.ref c.tp) := ev_fld e h.ins T.cCandidate T.nC_topics cF0_topics

/-- page.candidates[c] -/
theorem pg_cand (T : Txt K mg CC CP CS) (h : PageL CC CP H a L p) {i : Nat} {k : CL} (hk : L.cs[i]? = some k) (e : Ev tp σ H (.ref a)) (ei : Ev tc σ H (nV i)) : Ev (tOp (rIxL K) (tFld K tp "candidates") tc) σ H (.ref k.at_) :=
  ev_ixS (es_of (pg_candidates T h e) (sq_of h.hc)) ei (atI_nat (by rw [List.getElem?_map, hk]; rfl))

theorem pg_c_score (T : Txt K mg CC CP CS) (h : PageL CC CP H a L p) {i : Nat} (hi : i < p.candidates.length) (e : Ev tp σ H (.ref a)) (ei : Ev tc σ H (nV i)) : Ev (tFld K (tOp (rIxL K) (tFld K tp "candidates") tc) "score") σ H (nV (Kp430.at_ p i).score) := by
  obtain ⟨k, hk, hc⟩ := h.cand hi
  exact cd_score T hc (pg_cand T h hk e ei)

theorem pg_c_group (T : Txt K mg CC CP CS) (h : PageL CC CP H a L p) {i : Nat} (hi : i < p.candidates.length) (e : Ev tp σ H (.ref a)) (ei : Ev tc σ H (nV i)) : Ev (tFld K (tOp (rIxL K) (tFld K tp "candidates") tc) "group") σ H (nV (Kp430.at_ p i).group) := by
  obtain ⟨k, hk, hc⟩ := h.cand hi
  exact cd_group T hc (pg_cand T h hk e ei)

theorem pg_c_creator (T : Txt K mg CC CP CS) (h : PageL CC CP H a L p) {i : Nat} (hi : i < p.candidates.length) (e : Ev tp σ H (.ref a)) (ei : Ev tc σ H (nV i)) : Ev (tFld K (tOp (rIxL K) (tFld K tp "candidates") tc) "creator") σ H (nV (Kp430.at_ p i).creator) := by
  obtain ⟨k, hk, hc⟩ := h.cand hi
  exact cd_creator T hc (pg_cand T h hk e ei)

theorem pg_c_age (T : Txt K mg CC CP CS) (h : PageL CC CP H a L p) {i : Nat} (hi : i < p.candidates.length) (e : Ev tp σ H (.ref a)) (ei : Ev tc σ H (nV i)) : Ev (tFld K (tOp (rIxL K) (tFld K tp "candidates") tc) "age") σ H (nV (Kp430.at_ p i).age) := by
  obtain ⟨k, hk, hc⟩ := h.cand hi
  exact cd_age T hc (pg_cand T h hk e ei)

theorem pg_lenC (T : Txt K mg CC CP CS) (h : PageL CC CP H a L p) (e : Ev tp σ H (.ref a)) : Ev (tCB (rLenS K) (tCons (tFld K tp "candidates") tNil)) σ H (nV p.candidates.length) :=
  ev_is (ev_lenS (es_of (pg_candidates T h e) (sq_of h.hc))) (by rw [List.length_map, h.hcl])
theorem pg_lenW (T : Txt K mg CC CP CS) (h : PageL CC CP H a L p) (e : Ev tp σ H (.ref a)) : Ev (tCB (rLenS K) (tCons (tFld K tp "weights") tNil)) σ H (nV p.weights.length) :=
  ev_is (ev_lenS (es_of (pg_weights T h e) (sq_of h.hw))) (by rw [List.length_map])
end
end Ps
end

section
set_option maxRecDepth 100000
set_option maxHeartbeats 2000000
namespace Ps
open PySem PySem.Spec PyProof.Rows L2 Evl
open Kp430 (Page Candidate Quota)
section
variable {P : Program} {w : World} {K : PySem.W.Frag} {mg : Str → Option Value} {base : Heap} {CC CP CS : Addr}
theorem nv_lt {a b : Nat} : V.bl (decide ((a : Int) < (b : Int))) = .bl (decide (a < b)) := by simp
theorem nv_le {a b : Nat} : V.bl (decide ((a : Int) ≤ (b : Int))) = .bl (decide (a ≤ b)) := by simp
theorem nv_eq {a b : Nat} : decide (nV a = nV b) = decide (a = b) := decide_eq_decide.mpr ⟨fun q => by injection q with q; omega, fun q => by rw [q]⟩
/-! ### Page.has_candidate, Page.has_position -/
def rHasC (CC CP : Addr) : List V → Hp → V → Prop := fun vs H z => ∃ a p c, vs = [.ref a, nV c] ∧ PageAt CC CP H a p ∧ z = .bl (Kp430.hasCandidate p c)
abbrev s_Page_has_candidate : Stmt := inClass (topS 97) 1
theorem sc_Page_has_candidate : FnScope ["self", "candidate"] ["self", "candidate"] (defScope s_Page_has_candidate) := ⟨rfl, rfl, rfl, by decide +kernel, rfl, by decide +kernel, by decide +kernel⟩
theorem ok_Page_has_candidate (T : Txt K mg CC CP CS) (F : MFunAt K CP "has_candidate" "Page.has_candidate" s_Page_has_candidate ["self", "candidate"]) : MethAt P w K mg base 1 CP "has_candidate" ["self", "candidate"] (spV (rHasC CC CP)) := by
  obtain ⟨f, fd, FF, hm, hb⟩ := F.ex
  refine ⟨f, fd, FF.ok sc_Page_has_candidate (fun vs H Q E h => ?_) (fun cdv A outer s H vs Q E hr h => ⟨_, (pss_one (ps_ret (pe_cmpR op_lt (pv 1) (pe_callB (lenK (K := K)) (by rfl) T.len (by decide +kernel) (pa_cons (fldK (K := K) (pv 0)) pa_nil)) (nomark _)))), ?_⟩), hm, hb⟩
  · obtain ⟨z, ⟨_, _, _, rfl, _⟩, _⟩ := h
    rfl
  · obtain ⟨z, ⟨a, p, c, rfl, ⟨L, hp⟩, rfl⟩, k⟩ := h
    exact s_ret (ev_is (ev_op (ev_var rfl) (pg_lenC T hp (ev_var rfl)) rv_I0) nv_lt) fun H1 e1 => k H1 e1
def rHasP (CC CP : Addr) : List V → Hp → V → Prop := fun vs H z => ∃ a p c, vs = [.ref a, nV c] ∧ PageAt CC CP H a p ∧ z = .bl (decide (c < p.weights.length))
abbrev s_Page_has_position : Stmt := inClass (topS 97) 2
theorem sc_Page_has_position : FnScope ["self", "position"] ["self", "position"] (defScope s_Page_has_position) := ⟨rfl, rfl, rfl, by decide +kernel, rfl, by decide +kernel, by decide +kernel⟩
theorem ok_Page_has_position (T : Txt K mg CC CP CS) (F : MFunAt K CP "has_position" "Page.has_position" s_Page_has_position ["self", "position"]) : MethAt P w K mg base 1 CP "has_position" ["self", "position"] (spV (rHasP CC CP)) := by
  obtain ⟨f, fd, FF, hm, hb⟩ := F.ex
  refine ⟨f, fd, FF.ok sc_Page_has_position (fun vs H Q E h => ?_) (fun cdv A outer s H vs Q E hr h => ⟨_, (pss_one (ps_ret (pe_cmpR op_lt (pv 1) (pe_callB (lenK (K := K)) (by rfl) T.len (by decide +kernel) (pa_cons (fldK (K := K) (pv 0)) pa_nil)) (nomark _)))), ?_⟩), hm, hb⟩
  · obtain ⟨z, ⟨_, _, _, rfl, _⟩, _⟩ := h
    rfl
  · obtain ⟨z, ⟨a, p, c, rfl, ⟨L, hp⟩, rfl⟩, k⟩ := h
    exact s_ret (ev_is (ev_op (ev_var rfl) (pg_lenW T hp (ev_var rfl)) rv_I0) nv_lt) fun H1 e1 => k H1 e1
/-! ### Page.is_beginning, Page.is_slate -/
def rIsB (K : PySem.W.Frag) (CC CP : Addr) : List V → Hp → V → Prop := fun vs H z => ∃ a p l ns, vs = [.ref a, .ref l] ∧ PageAt CC CP H a p ∧ SqL K H l (ns.map nV) ∧ ns.length ≤ 100 ∧ z = .bl (Kp430.isBeginning p ns)
abbrev s_Page_is_beginning : Stmt := inClass (topS 97) 4
theorem sc_Page_is_beginning : FnScope ["self", "listed", "candidate"] ["self", "listed"] (defScope s_Page_is_beginning) := ⟨rfl, rfl, rfl, by decide +kernel, rfl, by decide +kernel, by decide +kernel⟩
theorem ok_Page_is_beginning (T : Txt K mg CC CP CS) (F : MFunAt K CP "is_beginning" "Page.is_beginning" s_Page_is_beginning ["self", "listed"]) (D_Page_has_candidate : MethAt P w K mg base 1 CP "has_candidate" ["self", "candidate"] (spV (rHasC CC CP))) :
    MethAt P w K mg base 2 CP "is_beginning" ["self", "listed"] (spV (rIsB K CC CP)) := by
  obtain ⟨f, fd, FF, hm, hb⟩ := F.ex
  refine ⟨f, fd, FF.ok sc_Page_is_beginning (fun vs H Q E h => ?_) (fun cdv A outer s H vs Q E hr h => ⟨_, (pss_cons (ps_if (pt_cmpR op_gt (pe_callB (lenK (K := K)) (by rfl) T.len (by decide +kernel) (pa_cons (pv 1) pa_nil)) (pe_callB (lenK (K := K)) (by rfl) T.len (by decide +kernel) (pa_cons (fldK (K := K) (pv 0)) pa_nil)) (nomark _)) (pss_one (ps_ret pe_bl)) pss_nil)
      (pss_cons (ps_if (pt_not (pt_val (pe_callB (allK (K := K)) (by rfl) T.all (by decide +kernel) (pa_cons (pe_lc (own := [("candidate", 2)]) rfl sc_Page_is_beginning.nd (wList (K := K) (pv 1)) (blkOk_by (own := [("candidate", 2)]) (N := ["self", "listed", "candidate"]) (sc := defScope s_Page_is_beginning) (by decide +kernel)) (fun _ _ _ _ _ => pg_name (i := 2) sc_Page_is_beginning.nd rfl (Or.inl rfl)) (fun _ _ _ _ _ => pts_nil) (fun _ _ _ _ _ => (pe_mt D_Page_has_candidate T.cPage (hr.mono (by decide)) pass0 (pv 0) (pa_cons (pv 2) pa_nil)))) pa_nil)))) (pss_one (ps_ret pe_bl)) pss_nil)
      (pss_one (ps_ret (pe_cmpR op_eq (pe_lenSetD (K := K) T.len T.set (pv 1)) (pe_callB (lenK (K := K)) (by rfl) T.len (by decide +kernel) (pa_cons (pv 1) pa_nil)) (nomark _)))))), ?_⟩), hm, hb⟩
  · obtain ⟨z, ⟨_, _, _, _, rfl, _⟩, _⟩ := h
    rfl
  · obtain ⟨z, ⟨a, p, l, ns, rfl, ⟨L, hp⟩, hS, h100, rfl⟩, k⟩ := h
    have hv : ∀ H1, Ex H H1 → ∀ σ : L2.St, σ[1]? = some (some (.ref l)) → EvS K (tVar 1) σ H1 (ns.map nV) := fun H1 e σ h0 => es_of (ev_var h0) (ex_l e hS)
    refine q_when (et_test (ev_is (ev_op (ev_is (ev_lenS (hv H (Ex.refl H) _ (by rfl))) (by rw [List.length_map])) (pg_lenW T hp (ev_var rfl)) rv_I0) nv_lt)) (fun hc H1 e1 => s_ret ev_c fun H2 e2 => ?_) (fun hc H1 e1 => ?_)
    · rw [decide_eq_true_eq] at hc
      have : Kp430.isBeginning p ns = false := by
        unfold Kp430.isBeginning Kp430.positions
        rw [decide_eq_false (by omega)]; rfl
      rw [this] at k
      exact k H2 (e1.trans e2)
    · rw [decide_eq_false_iff_not] at hc
      refine q_when (et_not (et_B (ev_allS (bs := ns.map fun n => Kp430.hasCandidate p n) (es_new (EvL.is (el_lcM (g := fun n : Nat => V.bl (Kp430.hasCandidate p n)) (hv H1 e1 _ (by rfl)) (by omega) (by intro _; rfl) fun n H2 e2 _ => ?_) ?_))))) (fun hc2 H2 e2 => s_ret ev_c fun H3 e3 => ?_) (fun hc2 H2 e2 => ?_)
      · exact ev_mt (ev_var rfl) (e2 _ _ (e1 _ _ hp.ins)) pF0_no_has_candidate (ea_cons (ev_var rfl) ea_nil) fun H3 e3 => ⟨a, p, n, rfl, ⟨L, hp.mono ((e1.trans e2).trans e3)⟩, rfl⟩
      · rw [List.map_map]; rfl
      · have : Kp430.isBeginning p ns = false := by
          unfold Kp430.isBeginning
          rw [List.all_map, Bool.not_eq_true'] at hc2
          rw [show ns.all (Kp430.hasCandidate p) = false from hc2]; simp
        rw [this] at k
        exact k H3 ((e1.trans e2).trans e3)
      · rw [List.all_map, Bool.not_eq_false'] at hc2
        have hv2 := hv H2 (e1.trans e2)
        refine s_ret (ev_is (ev_op (ev_lenD (ns := ns.map fun n : Nat => (n : Int)) (EvS.is (hv2 _ (by rfl)) (by rw [List.map_map]; rfl)) (by rw [List.length_map]; omega)) (ev_lenS (hv2 _ (by rfl))) (rv_eq rfl)) ?_) fun H3 e3 => k H3 ((e1.trans e2).trans e3)
        unfold Kp430.isBeginning Kp430.positions
        rw [show ns.all (Kp430.hasCandidate p) = true from hc2, decide_eq_true (show ns.length ≤ p.weights.length by omega), erase_beq, List.length_map]
        have hcd := countD_nodup (ns.map fun n : Nat => (n : Int))
        rw [nodup_cast, List.length_map] at hcd
        congr 1
        rw [Bool.true_and, Bool.true_and]
        apply decide_eq_decide.mpr
        rw [← hcd]
        constructor
        · intro q
          injection q with q
          omega
        · intro q
          rw [q]
def rIsS (K : PySem.W.Frag) (CC CP : Addr) : List V → Hp → V → Prop := fun vs H z => ∃ a p l ns, vs = [.ref a, .ref l] ∧ PageAt CC CP H a p ∧ SqL K H l (ns.map nV) ∧ ns.length ≤ 100 ∧ z = .bl (Kp430.isSlate p ns)
abbrev s_Page_is_slate : Stmt := inClass (topS 97) 5
theorem sc_Page_is_slate : FnScope ["self", "listed"] ["self", "listed"] (defScope s_Page_is_slate) := ⟨rfl, rfl, rfl, by decide +kernel, rfl, by decide +kernel, by decide +kernel⟩
theorem ok_Page_is_slate (T : Txt K mg CC CP CS) (F : MFunAt K CP "is_slate" "Page.is_slate" s_Page_is_slate ["self", "listed"]) (D_Page_is_beginning : MethAt P w K mg base 2 CP "is_beginning" ["self", "listed"] (spV (rIsB K CC CP))) :
    MethAt P w K mg base 3 CP "is_slate" ["self", "listed"] (spV (rIsS K CC CP)) := by
  obtain ⟨f, fd, FF, hm, hb⟩ := F.ex
  refine ⟨f, fd, FF.ok sc_Page_is_slate (fun vs H Q E h => ?_) (fun cdv A outer s H vs Q E hr h => ⟨_, (pss_one (ps_ret (pe_and (pe_cmpR op_eq (pe_callB (lenK (K := K)) (by rfl) T.len (by decide +kernel) (pa_cons (pv 1) pa_nil)) (pe_callB (lenK (K := K)) (by rfl) T.len (by decide +kernel) (pa_cons (fldK (K := K) (pv 0)) pa_nil)) (nomark _)) (pe_one (pe_mt D_Page_is_beginning T.cPage (hr.mono (by decide)) pass0 (pv 0) (pa_cons (pv 1) pa_nil)))))), ?_⟩), hm, hb⟩
  · obtain ⟨z, ⟨_, _, _, _, rfl, _⟩, _⟩ := h
    rfl
  · obtain ⟨z, ⟨a, p, l, ns, rfl, ⟨L, hp⟩, hS, h100, rfl⟩, k⟩ := h
    refine s_ret (ev_is (ev_andV (ev_op (ev_lenS (es_of (ev_var rfl) hS)) (pg_lenW T hp (ev_var rfl)) (rv_eq rfl)) fun _ => ev_mt (ev_var rfl) hp.ins pF0_no_is_beginning (ea_cons (ev_var rfl) ea_nil) fun H3 e3 => ⟨a, p, l, ns, rfl, ⟨L, hp.mono e3⟩, ex_l e3 hS, h100, rfl⟩) ?_) fun H1 e1 => k H1 e1
    rw [List.length_map]
    unfold Kp430.isSlate Kp430.isBeginning Kp430.positions
    congr 1
    by_cases h : ns.length = p.weights.length
    · simp [h]
    · have h2 : decide (nV ns.length = nV p.weights.length) = false := by rw [nv_eq]; simp [h]
      rw [h2, beq_eq_false_iff_ne.mpr h]
      rfl
end
end Ps
end

section
set_option maxRecDepth 100000
set_option maxHeartbeats 2000000
namespace Ps
open PySem PySem.Spec PyProof.Rows L2 Evl
open Kp430 (Page Candidate Quota)
/-- a dict whose keys are these numbers -/
def kvT (ts : List Nat) : List (Key × V) := ts.map fun t : Nat => (Sum.inl (t : Int), V.bl true)
theorem putT (ts : List Nat) (t : Nat) : putK (kvT ts) (Sum.inl (t : Int)) (.bl true) = kvT (addT ts t) := by
  unfold putK addT kvT
  by_cases h : t ∈ ts
  · have : ((ts.map fun t : Nat => ((Sum.inl (t : Int) : Key), V.bl true)).any fun kv => decide (kv.1 = Sum.inl (t : Int))) = true := by
      rw [List.any_map, List.any_eq_true]
      exact ⟨t, h, by simp⟩
    rw [if_pos this, if_pos h, List.map_map]
    refine List.map_congr_left fun x _ => ?_
    simp only [Function.comp]
    split <;> rfl
  · have : ¬ ((ts.map fun t : Nat => ((Sum.inl (t : Int) : Key), V.bl true)).any fun kv => decide (kv.1 = Sum.inl (t : Int))) = true := by
      rw [List.any_map, List.any_eq_true]
      rintro ⟨x, hx, e⟩
      have e : (Sum.inl (x : Int) : Key) = Sum.inl (t : Int) := of_decide_eq_true e
      have e2 := Sum.inl.inj e
      have e3 : x = t := by omega
      exact h (e3 ▸ hx)
    rw [if_neg this, if_neg h, List.map_append]
    rfl
section
variable {σ : L2.St} {H : Hp} {D : Ends} {td ty tv : TE} {v : V}
theorem s_dput {d : Addr} {kvs : List (Key × V)} {k : Key} (hd : H d = some (.dK kvs)) (hv : Ev tv σ H v) (ho : Ev td σ H (.ref d)) (hk : Ev ty σ H (kV k)) (hl : kvs.length < 100000) (nx : ∀ H1, Ex H H1 → D.nx σ (upd H1 d (.dK (putK kvs k v)))) : sDPut td ty tv D σ H :=
  hv H (Ex.refl H) _ fun H1 e1 => ho H1 e1 _ fun H2 e2 => hk H2 (e1.trans e2) _ fun H3 e3 => ⟨d, _, rfl, DPut.k (((e1.trans e2).trans e3) _ _ hd) (sz_lt hl), nx H3 ((e1.trans e2).trans e3)⟩
end
section
variable {P : Program} {w : World} {K : PySem.W.Frag} {mg : Str → Option Value} {base : Heap} {CC CP CS : Addr}
/-- what is asked of a slate or a beginning: candidates that are there -/
structure Asked (K : PySem.W.Frag) (CC CP : Addr) (vs : List V) (H : Hp) (a l : Addr) (p : Page) (ns : List Nat) : Prop where
  vs : vs = [.ref a, .ref l]
  pg : PageAt CC CP H a p
  wf : Wf p
  ls : SqL K H l (ns.map nV)
  in_ : ∀ n ∈ ns, n < p.candidates.length
  fit : ns.length ≤ p.weights.length
structure Asked9 (K : PySem.W.Frag) (CC CP : Addr) (vs : List V) (H : Hp) (a l : Addr) (p : Page) (ns : List Nat) : Prop where
  vs : vs = [.ref a, .ref l]
  pg : PageAt CC CP H a p
  wf : Wf p
  ls : SqL K H l (ns.map nV)
  in_ : ∀ n ∈ ns, n < p.candidates.length
  nine : ns.length ≤ 9
theorem Asked.to9 {vs : List V} {H : Hp} {a l : Addr} {p : Page} {ns : List Nat} (h : Asked K CC CP vs H a l p ns) : Asked9 K CC CP vs H a l p ns := ⟨h.vs, h.pg, h.wf, h.ls, h.in_, Nat.le_trans h.fit (Nat.le_trans h.wf.w5 (by decide))⟩
instance {vs : List V} {H : Hp} {a l : Addr} {p : Page} {ns : List Nat} : Coe (Asked K CC CP vs H a l p ns) (Asked9 K CC CP vs H a l p ns) := ⟨Asked.to9⟩
theorem Asked9.mono {vs : List V} {H H' : Hp} {a l : Addr} {p : Page} {ns : List Nat} (h : Asked9 K CC CP vs H a l p ns) (e : Ex H H') : Asked9 K CC CP vs H' a l p ns := { h with pg := h.pg.mono e, ls := ex_l e h.ls }
theorem Asked.few {vs : List V} {H : Hp} {a l : Addr} {p : Page} {ns : List Nat} (h : Asked K CC CP vs H a l p ns) : ns.length ≤ 5 := Nat.le_trans h.fit h.wf.w5
theorem Asked.mono {vs : List V} {H H' : Hp} {a l : Addr} {p : Page} {ns : List Nat} (h : Asked K CC CP vs H a l p ns) (e : Ex H H') : Asked K CC CP vs H' a l p ns := { h with pg := h.pg.mono e, ls := ex_l e h.ls }
def rRel (K : PySem.W.Frag) (CC CP : Addr) : List V → Hp → V → Prop := fun vs H z => ∃ a l p ns, Asked K CC CP vs H a l p ns ∧ z = nV (Kp430.relevance p ns)
abbrev s_relevance_of : Stmt := topS 33
theorem sc_relevance_of : FnScope ["page", "listed", "weight", "candidate"] ["page", "listed"] (defScope s_relevance_of) := ⟨rfl, rfl, rfl, by decide +kernel, rfl, by decide +kernel, by decide +kernel⟩
theorem ok_relevance_of (T : Txt K mg CC CP CS) (F : FunAt K mg "relevance_of" s_relevance_of ["page", "listed"]) : DefAt P w K mg base 1 "relevance_of" ["page", "listed"] (spV (rRel K CC CP)) := by
  obtain ⟨f, fd, FF, hm, hb⟩ := F.ex
  refine ⟨f, fd, FF.ok sc_relevance_of (fun vs H Q E h => ?_) (fun cdv A outer s H vs Q E hr h => ⟨_, (pss_one (ps_ret (pe_callB (sumK (K := K)) (by rfl) T.sum (by decide +kernel) (pa_cons (pe_lc (own := [("weight", 2), ("candidate", 3)]) rfl sc_relevance_of.nd (wZip (K := K) T.zip (pa_cons (fldK (K := K) (pv 0)) (pa_cons (pv 1) pa_nil))) (blkOk_by (own := [("weight", 2), ("candidate", 3)]) (N := ["page", "listed", "weight", "candidate"]) (sc := defScope s_relevance_of) (by decide +kernel)) (fun _ _ _ _ _ => gTupK (K := K) (n := 2) (pgs_cons (pg_name (i := 2) sc_relevance_of.nd rfl (Or.inl rfl)) (pgs_cons (pg_name (i := 3) sc_relevance_of.nd rfl (Or.inl rfl)) pgs_nil))) (fun _ _ _ _ _ => pts_nil) (fun _ _ _ _ _ => (pe_op op_mul (pv 2) (fldK (K := K) (pe_ix (ixL (K := K)) (fldK (K := K) (pv 0)) (pv 3) (fun _ _ => rfl)))))) pa_nil)))), ?_⟩), hm, FF.kp, hb⟩
  · obtain ⟨z, ⟨_, _, _, _, ⟨rfl, _⟩, _⟩, _⟩ := h
    rfl
  · obtain ⟨z, ⟨a, l, p, ns, ⟨rfl, ⟨L, hp⟩, wf, hS, hin, hfit⟩, rfl⟩, k⟩ := h
    refine s_ret (ev_is (ev_sumS (ns := ((p.weights.zip ns).map fun x => x.1 * (Kp430.at_ p x.2).score).map fun n : Nat => (n : Int)) (es_new (EvL.is (el_lcZ (g := fun u c : Nat => nV (u * (Kp430.at_ p c).score)) (r := nV) (s := nV) (l := p.weights) (m := ns)
      (ez_of (es_of (pg_weights T hp (ev_var rfl)) (sq_of hp.hw)) (es_of (ev_var (by rfl)) hS)) (by have := wf.w5; omega) (by intro _ _; rfl) fun u c H1 e1 hm => ?_) ?_))) ?_) fun H1 e1 => k H1 e1
    · have h1 := List.of_mem_zip hm
      have hu := wf.wr u h1.1
      exact ev_is (ev_op (ev_var rfl) (pg_c_score T (hp.mono e1) (hin c h1.2) (ev_var rfl) (ev_var rfl)) (rv_I (.inl ⟨by omega, by omega⟩))) (by simp)
    · rw [List.map_map, List.map_map]; rfl
    · rw [cast_sum]; rfl
def rCov (K : PySem.W.Frag) (CC CP : Addr) : List V → Hp → V → Prop := fun vs H z => ∃ a l p ns, Asked9 K CC CP vs H a l p ns ∧ z = nV (Kp430.covered p ns).length
abbrev s_coverage_of : Stmt := topS 34
theorem sc_coverage_of : FnScope ["page", "listed", "covered", "candidate", "topic"] ["page", "listed"] (defScope s_coverage_of) := ⟨rfl, rfl, rfl, by decide +kernel, rfl, by decide +kernel, by decide +kernel⟩
theorem ok_coverage_of (T : Txt K mg CC CP CS) (F : FunAt K mg "coverage_of" s_coverage_of ["page", "listed"]) : DefAt P w K mg base 1 "coverage_of" ["page", "listed"] (spV (rCov K CC CP)) := by
  obtain ⟨f, fd, FF, hm, hb⟩ := F.ex
  refine ⟨f, fd, FF.ok sc_coverage_of (fun vs H Q E h => ?_) (fun cdv A outer s H vs Q E hr h => ⟨_, (pss_cons (ps_set (i := 2) sc_coverage_of.nd rfl (Or.inl rfl) pe_dnewK)
      (pss_cons (ps_for PassesOwn.never rfl (wList (K := K) (pv 1)) (pg_name (i := 3) sc_coverage_of.nd rfl (Or.inl rfl))
        (pss_one (ps_for PassesOwn.never rfl (wList (K := K) (fldK (K := K) (pe_ix (ixL (K := K)) (fldK (K := K) (pv 0)) (pv 3) (fun _ _ => rfl)))) (pg_name (i := 4) sc_coverage_of.nd rfl (Or.inl rfl))
        (pss_one (ps_dput (hu_of hr) (pv 2) (pv 4) pe_bl rfl)))))
      (pss_one (ps_ret (pe_callB call_lenD (by rfl) T.len (by decide +kernel) (pa_cons (pv 2) pa_nil)))))), ?_⟩), hm, FF.kp, hb⟩
  · obtain ⟨z, ⟨_, _, _, _, ⟨rfl, _⟩, _⟩, _⟩ := h
    rfl
  · obtain ⟨z, ⟨a, l, p, ns, ⟨rfl, ⟨L, hp⟩, wf, hS, hin, hfit⟩, rfl⟩, k⟩ := h
    intro d hd
    have e0 : Ex H (upd H d (.dK [])) := Ex.new hd
    have small : ∀ i, (covFold p [] (ns.take i)).length ≤ 12 := fun i => by
      rw [cov_len fun c hc => topics_lt wf (hin c (List.mem_of_mem_take hc))]
      exact covered_le _ _
    refine q_forLn (xs := ns.map nV) (ev_var (by rfl)) (ex_l e0 hS) (fun i σ' H' => ∃ v3 v4, σ' = [some (.ref a), some (.ref l), some (.ref d), v3, v4] ∧ Ex H H' ∧ H' d = some (.dK (kvT (covFold p [] (ns.take i)))))
      (fun H1 e1 => ⟨none, none, rfl, e0.trans e1, e1 d (.dK []) upd_same⟩) (fun i σ' H' _ ⟨_, _, _, q, _⟩ => ex_l q hS) ?_ ?_
    · rintro i x σ' H' hi ⟨v3, v4, rfl, eH, hD⟩
      obtain ⟨c, hc, rfl⟩ : ∃ c, ns[i]? = some c ∧ x = nV c := by
        rw [List.getElem?_map] at hi
        cases e : ns[i]? with
        | none => rw [e] at hi; cases hi
        | some c => rw [e] at hi; exact ⟨c, rfl, (Option.some.inj hi).symm⟩
      have hcl := hin c (List.mem_of_getElem? hc)
      obtain ⟨kc, hkc, hca⟩ := hp.cand hcl
      have htl := topics_len wf hcl
      have step : ns.take (i + 1) = ns.take i ++ [c] := by rw [List.take_add_one, hc]; rfl
      refine s_forLn (xs := (Kp430.at_ p c).topics.map nV) (cd_topics T (hca.mono eH) (pg_cand T (hp.mono eH) hkc (ev_var rfl) (ev_var rfl))) (sq_of (eH _ _ hca.tps))
        (fun j σ2 H2 => ∃ v4, σ2 = [some (.ref a), some (.ref l), some (.ref d), some (nV c), v4] ∧ Ex H H2 ∧ H2 d = some (.dK (kvT (((Kp430.at_ p c).topics.take j).foldl addT (covFold p [] (ns.take i))))))
        (fun H1 e1 => ⟨v4, rfl, eH.trans e1, e1 _ _ hD⟩) (fun j σ2 H2 _ ⟨_, _, q, _⟩ => sq_of (q _ _ hca.tps)) ?_ ?_
      · rintro j y σ2 H2 hj ⟨v5, rfl, eH2, hD2⟩
        obtain ⟨t, ht, rfl⟩ : ∃ t, (Kp430.at_ p c).topics[j]? = some t ∧ y = nV t := by
          rw [List.getElem?_map] at hj
          cases e : (Kp430.at_ p c).topics[j]? with
          | none => rw [e] at hj; cases hj
          | some t => rw [e] at hj; exact ⟨t, rfl, (Option.some.inj hj).symm⟩
        refine s_dput (k := Sum.inl (t : Int)) hD2 ev_c (ev_var rfl) (ev_var rfl) ?_ fun H3 e3 => ?_
        · unfold kvT
          rw [List.length_map]
          have h1 : ∀ (m : List Nat) (ts : List Nat), (m.foldl addT ts).length ≤ ts.length + m.length := by
            intro m
            induction m with
            | nil => intro ts; simp
            | cons b m ih =>
              intro ts
              have := ih (addT ts b)
              have h2 : (addT ts b).length ≤ ts.length + 1 := by unfold addT; split <;> simp
              rw [List.foldl_cons, List.length_cons]
              omega
          have h3 := h1 ((Kp430.at_ p c).topics.take j) (covFold p [] (ns.take i))
          have h4 := small i
          have h5 : ((Kp430.at_ p c).topics.take j).length ≤ 12 := Nat.le_trans (List.length_take_le' _ _) htl
          omega
        · refine ⟨_, rfl, Ex.mut (eH2.trans e3) hd, ?_⟩
          rw [upd_same, putT]
          have st : (Kp430.at_ p c).topics.take (j + 1) = (Kp430.at_ p c).topics.take j ++ [t] := by rw [List.take_add_one, ht]; rfl
          rw [st, List.foldl_append]
          rfl
      · rintro σ2 H2 ⟨v5, rfl, eH2, hD2⟩
        refine ⟨some (nV c), v5, rfl, eH2, ?_⟩
        rw [hD2, List.length_map, List.take_length, step]
        unfold covFold
        rw [List.foldl_append]
        rfl
    · rintro σ' H' ⟨v3, v4, rfl, eH, hD⟩
      rw [List.length_map, List.take_length] at hD
      refine ⟨_, rfl, d, _, rfl, hD, ?_⟩
      have e : ((kvT (covFold p [] ns)).length : Int) = ((Kp430.covered p ns).length : Int) := by
        unfold kvT
        rw [List.length_map, cov_len fun c hc => topics_lt wf (hin c hc)]
      rw [e]
      exact k H' eH
def rVal (K : PySem.W.Frag) (CC CP : Addr) : List V → Hp → V → Prop := fun vs H z => ∃ a l p ns, Asked K CC CP vs H a l p ns ∧ z = nV (Kp430.value p ns)
abbrev s_value_of : Stmt := topS 35
theorem sc_value_of : FnScope ["page", "listed"] ["page", "listed"] (defScope s_value_of) := ⟨rfl, rfl, rfl, by decide +kernel, rfl, by decide +kernel, by decide +kernel⟩
theorem ok_value_of (T : Txt K mg CC CP CS) (F : FunAt K mg "value_of" s_value_of ["page", "listed"]) (D_relevance_of : DefAt P w K mg base 1 "relevance_of" ["page", "listed"] (spV (rRel K CC CP))) (D_coverage_of : DefAt P w K mg base 1 "coverage_of" ["page", "listed"] (spV (rCov K CC CP))) :
    DefAt P w K mg base 2 "value_of" ["page", "listed"] (spV (rVal K CC CP)) := by
  obtain ⟨f, fd, FF, hm, hb⟩ := F.ex
  refine ⟨f, fd, FF.ok sc_value_of (fun vs H Q E h => ?_) (fun cdv A outer s H vs Q E hr h => ⟨_, (pss_one (ps_ret (pe_op op_add (pe_cd D_relevance_of (hr.mono (by decide)) pass0 (pa_cons (pv 0) (pa_cons (pv 1) pa_nil))) (pe_op op_mul (fldK (K := K) (pv 0)) (pe_cd D_coverage_of (hr.mono (by decide)) pass0 (pa_cons (pv 0) (pa_cons (pv 1) pa_nil))))))), ?_⟩), hm, FF.kp, hb⟩
  · obtain ⟨z, ⟨_, _, _, _, ⟨rfl, _⟩, _⟩, _⟩ := h
    rfl
  · obtain ⟨z, ⟨a, l, p, ns, hA, rfl⟩, k⟩ := h
    have hA' := hA
    obtain ⟨rfl, ⟨L, hp⟩, wf, hS, hin, hfit⟩ := hA'
    have hd := wf.dv
    refine s_ret (ev_is (ev_op (ev_cd (ea_cons (ev_var rfl) (ea_cons (ev_var rfl) ea_nil)) fun H1 e1 => ⟨a, l, p, ns, hA.mono e1, rfl⟩) (ev_op (pg_diversity T hp (ev_var rfl)) (ev_cd (ea_cons (ev_var rfl) (ea_cons (ev_var rfl) ea_nil)) fun H1 e1 => ⟨a, l, p, ns, hA.mono e1, rfl⟩) (rv_I (.inl ⟨by omega, by omega⟩))) rv_I0) ?_) fun H1 e1 => k H1 e1
    unfold Kp430.value
    simp
end
end Ps
end

section
set_option maxRecDepth 100000
set_option maxHeartbeats 2000000
namespace Ps
open PySem PySem.Spec PyProof.Rows L2 Evl
open Kp430 (Page Candidate Quota)
/-! Loops that look for something: the body is read for any N that may follow a turn without a find. -/
section
variable {K : PySem.W.Frag} {σ : L2.St} {H : Hp} {D : Ends} {tl ta tb te to ti : TE} {tz : TA} {tu : TS} {g : TG}
theorem find_first {n : Nat} {test : Nat → Bool} {i : Nat} (hi : i < n) (h : ∀ j, j < i → test j = false) (ht : test i = true) : (List.range n).find? test = some i := by
  rw [List.find?_range_eq_some]
  exact ⟨ht, List.mem_range.mpr hi, fun j hj => by rw [h j hj]; rfl⟩
theorem find_not {n : Nat} {test : Nat → Bool} (h : ∀ j, j < n → test j = false) : (List.range n).find? test = none := by
  rw [List.find?_eq_none]
  exact fun x hx => by rw [h x (List.mem_range.mp hx)]; decide
theorem more_no {test : Nat → Bool} {i : Nat} (h : ∀ j, j < i → test j = false) (hi : test i = false) : ∀ j, j < i + 1 → test j = false := fun j hj => by
  by_cases e : j = i
  · rw [e]; exact hi
  · exact h j (by omega)
/-- over a list, by places -/
theorem s_findL (S : L2.St → Prop) {α : Type} {l : List α} {r : α → V} {test : Nat → Bool} (h : EvS K tl σ H (l.map r)) (hS : S σ)
    (hs : ∀ H1, Ex H H1 → ∀ (i : Nat) (a : α) σ' H', l[i]? = some a → (test i = true → (List.range l.length).find? test = some i) → S σ' → Ex H1 H' → ∀ N : L2.St → Hp → Prop, (test i = false → ∀ σ3 H3, S σ3 → Ex H1 H3 → N σ3 H3) →
      g (r a) σ' H' fun σ2 H2 => tu { D with nx := N, ct := N, bk := D.nx } σ2 H2)
    (hd : (List.range l.length).find? test = none → ∀ σ' H', S σ' → Ex H H' → D.nx σ' H') : tFor (iList K tl) g tu D σ H :=
  h H (Ex.refl H) _ fun p H1 e1 hp => ⟨p, rfl, ⟨_, hp⟩, for_list (xs := l.map r) (fun i σ' H' => S σ' ∧ Ex H1 H' ∧ ∀ j, j < i → test j = false) ⟨hS, Ex.refl _, fun j hj => absurd hj (Nat.not_lt_zero j)⟩ (fun i σ' H' _ q => ex_l q.2.1 hp)
    (fun i x σ' H' hi q => by
      obtain ⟨a, ha, rfl⟩ : ∃ a, l[i]? = some a ∧ r a = x := by
        rw [List.getElem?_map] at hi
        exact Option.map_eq_some_iff.mp hi
      have hl : i < l.length := (List.getElem?_eq_some_iff.mp ha).1
      exact hs H1 e1 i a σ' H' ha (fun ht => find_first hl q.2.2 ht) q.1 q.2.1 _ fun ht σ3 H3 s3 e3 => ⟨s3, e3, more_no q.2.2 ht⟩)
    (fun σ' H' q => hd (find_not fun j hj => q.2.2 j (by rw [List.length_map]; exact hj)) σ' H' q.1 (e1.trans q.2.1))⟩
/-- over enumerate(list) -/
theorem s_findE (S : L2.St → Prop) {α : Type} {l : List α} {r : α → V} {test : Nat → Bool} (h : EvS K tl σ H (l.map r)) (hS : S σ)
    (hs : ∀ H1, Ex H H1 → ∀ (i : Nat) (a : α) σ' H' T, l[i]? = some a → (test i = true → (List.range l.length).find? test = some i) → S σ' → Ex H1 H' → H' T = some (.tup [nV i, r a]) → ∀ N : L2.St → Hp → Prop, (test i = false → ∀ σ3 H3, S σ3 → Ex H1 H3 → N σ3 H3) →
      g (.ref T) σ' H' fun σ2 H2 => tu { D with nx := N, ct := N, bk := D.nx } σ2 H2)
    (hd : (List.range l.length).find? test = none → ∀ σ' H', S σ' → Ex H H' → D.nx σ' H') : tFor (iEnum K (tCons tl tNil)) g tu D σ H :=
  h H (Ex.refl H) _ fun p H1 e1 hp => ⟨p, _, rfl, hp, for_it (n := (l.map r).length) walk_enum (fun i σ' H' => S σ' ∧ Ex H1 H' ∧ ∀ j, j < i → test j = false) ⟨hS, Ex.refl _, fun j hj => absurd hj (Nat.not_lt_zero j)⟩ (fun i σ' H' _ q => ex_l q.2.1 hp)
    (fun i x σ' H' H'' hi q y => by
      obtain ⟨T, x1, x2, rfl, hT, rfl, h1, h2⟩ := y
      cases h1
      have h2 : (l.map r)[i]? = some x2 := h2
      obtain ⟨a, ha, rfl⟩ : ∃ a, l[i]? = some a ∧ r a = x2 := by
        rw [List.getElem?_map] at h2
        exact Option.map_eq_some_iff.mp h2
      have hl : i < l.length := (List.getElem?_eq_some_iff.mp ha).1
      exact hs H1 e1 i a σ' _ T ha (fun ht => find_first hl q.2.2 ht) q.1 (q.2.1.trans (Ex.new hT)) upd_same _ fun ht σ3 H3 s3 e3 => ⟨s3, e3, more_no q.2.2 ht⟩)
    (fun σ' H' q => hd (find_not fun j hj => q.2.2 j (by rw [List.length_map]; exact hj)) σ' H' q.1 (e1.trans q.2.1))⟩
theorem walk_r1 {n : Nat} : Walk (Itr 0 ((n : Int)).toNat) n (fun _ => True) (YFn fun i => .int (0 + i)) := by
  have e : ((n : Int)).toNat = n := by omega
  rw [e]
  exact walk_range
theorem walk_r2 {lo hi : Nat} : Walk (Itr (lo : Int) ((hi : Int) - (lo : Int)).toNat) (hi - lo) (fun _ => True) (YFn fun i => .int ((lo : Int) + i)) := by
  have e : ((hi : Int) - (lo : Int)).toNat = hi - lo := by omega
  rw [e]
  exact walk_range
/-- over range(n) -/
theorem s_findR (S : L2.St → Prop) {n : Nat} {test : Nat → Bool} (h : Ev ta σ H (nV n)) (hn : n ≤ 100000) (hS : S σ)
    (hs : ∀ (i : Nat) σ' H', i < n → (test i = true → (List.range n).find? test = some i) → S σ' → Ex H H' → ∀ N : L2.St → Hp → Prop, (test i = false → ∀ σ3 H3, S σ3 → Ex H H3 → N σ3 H3) →
      g (nV i) σ' H' fun σ2 H2 => tu { D with nx := N, ct := N, bk := D.nx } σ2 H2)
    (hd : (List.range n).find? test = none → ∀ σ' H', S σ' → Ex H H' → D.nx σ' H') : tFor (iRng1 (tCons ta tNil)) g tu D σ H :=
  h H (Ex.refl H) _ fun H1 e1 => ⟨(n : Int), rfl, by omega, by omega, for_it (n := n) walk_r1 (fun i σ' H' => S σ' ∧ Ex H H' ∧ ∀ j, j < i → test j = false) ⟨hS, e1, fun j hj => absurd hj (Nat.not_lt_zero j)⟩ (fun i σ' H' _ q => trivial)
    (fun i x σ' H' H'' hi q y => by
      obtain ⟨rfl, rfl⟩ := y
      have e0 : V.int ((0 : Int) + (i : Int)) = nV i := by rw [Int.zero_add]
      show g (V.int ((0 : Int) + (i : Int))) σ' H'' _
      rw [e0]
      exact hs i σ' H'' hi (fun ht => find_first hi q.2.2 ht) q.1 q.2.1 _ fun ht σ3 H3 s3 e3 => ⟨s3, e3, more_no q.2.2 ht⟩)
    (fun σ' H' q => hd (find_not fun j hj => q.2.2 j hj) σ' H' q.1 q.2.1)⟩
/-- over range(lo, hi) -/
theorem s_findR2 (S : L2.St → Prop) {lo hi : Nat} {test : Nat → Bool} (h1 : Ev ta σ H (nV lo)) (h2 : Ev tb σ H (nV hi)) (hlo : lo ≤ 100000) (hhi : hi ≤ 100000) (hS : S σ)
    (hs : ∀ (i : Nat) σ' H', lo + i < hi → (test i = true → (List.range (hi - lo)).find? test = some i) → S σ' → Ex H H' → ∀ N : L2.St → Hp → Prop, (test i = false → ∀ σ3 H3, S σ3 → Ex H H3 → N σ3 H3) →
      g (nV (lo + i)) σ' H' fun σ2 H2 => tu { D with nx := N, ct := N, bk := D.nx } σ2 H2)
    (hd : (List.range (hi - lo)).find? test = none → ∀ σ' H', S σ' → Ex H H' → D.nx σ' H') : tFor (iRng2 (tCons ta (tCons tb tNil))) g tu D σ H :=
  h1 H (Ex.refl H) _ fun H1 e1 => h2 H1 e1 _ fun H2 e2 => ⟨(lo : Int), (hi : Int), rfl, ⟨by omega, by omega, by omega, by omega⟩, for_it (n := hi - lo) walk_r2 (fun i σ' H' => S σ' ∧ Ex H H' ∧ ∀ j, j < i → test j = false) ⟨hS, e1.trans e2, fun j hj => absurd hj (Nat.not_lt_zero j)⟩ (fun i σ' H' _ q => trivial)
    (fun i x σ' H' H'' hi q y => by
      obtain ⟨rfl, rfl⟩ := y
      have e0 : V.int ((lo : Int) + (i : Int)) = nV (lo + i) := by congr 1
      show g (V.int ((lo : Int) + (i : Int))) σ' H'' _
      rw [e0]
      exact hs i σ' H'' (by omega) (fun ht => find_first hi q.2.2 ht) q.1 q.2.1 _ fun ht σ3 H3 s3 e3 => ⟨s3, e3, more_no q.2.2 ht⟩)
    (fun σ' H' q => hd (find_not fun j hj => q.2.2 j hj) σ' H' q.1 q.2.1)⟩
/-- xs[i] += e, ints -/
theorem s_augL {l : Addr} {xs : List V} {j : Nat} {m n : Int} (hl : H l = some (.lst xs)) (ho : Ev to σ H (.ref l)) (hi : Ev ti σ H (nV j)) (hx : xs[j]? = some (.int m)) (he : Ev te σ H (.int n)) (k : ∀ H1, Ex H H1 → D.nx σ (upd H1 l (.lst (xs.set j (.int (m + n)))))) :
    tAugS to ti te (rIxL K) (ipI fun i j => i + j) rSetL D σ H :=
  ho H (Ex.refl H) _ fun H1 e1 => hi H1 e1 _ fun H2 e2 => ⟨l, xs, (j : Int), .int m, rfl, rfl, sq_of ((e1.trans e2) _ _ hl), atI_nat hx, he H2 (e1.trans e2) _ fun H3 e3 => ⟨m, n, rfl, rfl, l, xs, (j : Int), j, rfl, rfl, ((e1.trans e2).trans e3) _ _ hl,
    ixN_nat (List.getElem?_eq_some_iff.mp hx).1, k H3 ((e1.trans e2).trans e3)⟩⟩
theorem getE_map {α β : Type} {l : List α} {f : α → β} {i : Nat} {x : β} (h : (l.map f)[i]? = some x) : ∃ a, l[i]? = some a ∧ x = f a := by
  rw [List.getElem?_map] at h
  obtain ⟨a, h1, h2⟩ := Option.map_eq_some_iff.mp h
  exact ⟨a, h1, h2.symm⟩
/-- a pair taken apart -/
theorem g_pair {T : Addr} {x y : V} {j k : Nat} {Q : L2.St → Hp → Prop} (h : H T = some (.tup [x, y])) (q : Q ((σ.set j (some x)).set k (some y)) H) : gTup K 2 (gCons (gName j) (gCons (gName k) gNil)) (.ref T) σ H Q :=
  ⟨T, _, rfl, st_of h, rfl, _, _, rfl, _, _, rfl, rfl, q⟩
end
end Ps
end

section
set_option maxRecDepth 100000
set_option maxHeartbeats 2000000
namespace Ps
open PySem PySem.Spec PyProof.Rows L2 Evl
open Kp430 (Page Candidate Quota)
theorem rv_isN {x : V} {H : Hp} : RV (fun x y H Q => y = .non ∧ Q (.bl (decide (x = .non))) H) x .non H (.bl (decide (x = .non))) := fun H1 _ Q q => ⟨rfl, q H1 (Ex.refl H1)⟩
theorem rv_notN {x : V} {H : Hp} : RV (fun x y H Q => y = .non ∧ Q (.bl (!decide (x = .non))) H) x .non H (.bl (!decide (x = .non))) := fun H1 _ Q q => ⟨rfl, q H1 (Ex.refl H1)⟩
/-- what a check tells -/
abbrev vL (o : Option (List Nat)) : List V := (o.getD []).map nV
theorem scal_on (x : Option Nat) (n : Nat) : scal (oV x) (nV n) = true := by
  cases x <;> rfl
section
variable {P : Program} {w : World} {K : PySem.W.Frag} {mg : Str → Option Value} {base : Heap} {CC CP CS : Addr} {σ : L2.St} {H : Hp} {D : Ends} {t u : TS} {a : Addr} {L : Lay} {p : Page} {tp tc : TE}
theorem seq_of (h : t { D with nx := u D } σ H) : tSeq t u D σ H := h
theorem pg_pin (T : Txt K mg CC CP CS) (h : PageL CC CP H a L p) (wf : Wf p) {i : Nat} (hi : i < p.weights.length) (e : Ev tp σ H (.ref a)) (ei : Ev tc σ H (nV i)) : Ev (tOp (rIxL K) (tFld K tp "pins") tc) σ H (oV (Kp430.pinAt p i)) := by
  refine ev_ixS (es_of (pg_pins T h e) (sq_of h.hp)) ei (atI_nat ?_)
  have hl : i < p.pins.length := by rw [wf.pn]; exact hi
  unfold Kp430.pinAt
  rw [List.getElem?_map, List.getD_eq_getElem?_getD, List.getElem?_eq_getElem hl]
  rfl
/-- the end of a check -/
theorem ret3 {a b c : TE} {x y z : Nat} {H0 : Hp} (ha : Ev a σ H (nV x)) (hb : Ev b σ H (nV y)) (hc : Ev c σ H (nV z)) (e : Ex H0 H) (k : RetL ([x, y, z].map nV) H0 D.rt) : tRet (tLst (tCons a (tCons b (tCons c tNil)))) D σ H :=
  s_retL (el_lst (ea_cons ha (ea_cons hb (ea_cons hc ea_nil))) (by show 3 ≤ 100000; decide)) fun p H1 hp e1 h => k p H1 (fresh_back e hp) (e.trans e1) h
theorem ret0 {H0 : Hp} (e : Ex H0 H) (k : RetL [] H0 D.rt) : tRet (tLst tNil) D σ H := s_retL (el_lst ea_nil (by show 0 ≤ 100000; decide)) fun p H1 hp e1 h => k p H1 (fresh_back e hp) (e.trans e1) h
def rChk (K : PySem.W.Frag) (CC CP : Addr) (F : Page → List Nat → Option (List Nat)) : List V → Hp → List V → Prop := fun vs H xs => ∃ a l p ns, Asked K CC CP vs H a l p ns ∧ xs = vL (F p ns)
theorem ev_nat {n : Nat} : Ev (tC (V.int (n : Int))) σ H (nV n) := ev_c
/-! ### pins -/
abbrev s_pin_violation : Stmt := topS 46
theorem sc_pin_violation : FnScope ["page", "listed", "position", "candidate", "pinned"] ["page", "listed"] (defScope s_pin_violation) := ⟨rfl, rfl, rfl, by decide +kernel, rfl, by decide +kernel, by decide +kernel⟩
theorem ok_pin_violation (T : Txt K mg CC CP CS) (F : FunAt K mg "pin_violation" s_pin_violation ["page", "listed"]) : DefAt P w K mg base 1 "pin_violation" ["page", "listed"] (spL (rChk K CC CP pinV)) := by
  obtain ⟨f, fd, FF, hm, hb⟩ := F.ex
  refine ⟨f, fd, FF.ok sc_pin_violation (fun vs H Q E h => ?_) (fun cdv A outer s H vs Q E hr h => ⟨_, (pss_cons (ps_for PassesOwn.never rfl (wEnum (K := K) T.enumerate (pa_cons (pv 1) pa_nil)) (gTupK (K := K) (n := 2) (pgs_cons (pg_name (i := 2) sc_pin_violation.nd rfl (Or.inl rfl)) (pgs_cons (pg_name (i := 3) sc_pin_violation.nd rfl (Or.inl rfl)) pgs_nil)))
        (pss_cons (ps_set (i := 4) sc_pin_violation.nd rfl (Or.inl rfl) (pe_ix (ixL (K := K)) (fldK (K := K) (pv 0)) (pv 2) (fun _ _ => rfl)))
      (pss_one (ps_if (PW.pt (pw_and (pt_cmpR op_notN (pv 4) pe_non (nomark _)) (pw_and1 (pt_cmpR op_ne (pv 4) (pv 3) (nomark _))))) (pss_one (ps_ret (pe_lst (pa_cons pe_int (pa_cons (pv 2) (pa_cons pe_int pa_nil)))))) pss_nil))))
      (pss_one (ps_ret (pe_lst pa_nil)))), ?_⟩), hm, FF.kp, hb⟩
  · obtain ⟨z, ⟨_, _, _, _, ⟨rfl, _⟩, _⟩, _⟩ := h
    rfl
  · obtain ⟨z, ⟨a, l, p, ns, ⟨rfl, ⟨L, hp⟩, wf, hS, hin, hfit⟩, rfl⟩, k⟩ := h
    refine seq_of (s_findE (fun σ => ∃ v2 v3 v4, σ = [some (.ref a), some (.ref l), v2, v3, v4]) (test := pinTest p ns) (es_of (ev_var (by rfl)) hS) ⟨none, none, none, rfl⟩ ?_ ?_)
    · rintro H1 e1 i c σ' H' TT hc hf ⟨v2, v3, v4, rfl⟩ e2 hT N hN
      have hi : i < p.weights.length := Nat.lt_of_lt_of_le (List.getElem?_eq_some_iff.mp hc).1 hfit
      refine g_pair hT (q_asg (pg_pin T (hp.mono (e1.trans e2)) wf hi (ev_var rfl) (ev_var rfl)) fun H2 e3 => ?_)
      refine s_when (et_and (et_test (ev_op (ev_var rfl) ev_c rv_notN)) fun _ => et_test (ev_op (ev_var rfl) (ev_var rfl) (rv_ne (scal_on _ _)))) (fun hb H3 e4 => ?_) (fun hb H3 e4 => ?_)
      · have ht : pinTest p ns i = true := by
          unfold pinTest
          cases hpin : Kp430.pinAt p i with
          | none => rw [hpin] at hb; simp at hb
          | some d =>
            rw [hpin] at hb
            rw [Bool.and_eq_true, nv_eq] at hb
            rw [hc]
            simpa using Ne.symm (by simpa using hb.2)
        refine ret3 (x := 1) (z := 0) ev_c (ev_var rfl) ev_c (((e1.trans e2).trans e3).trans e4) ?_
        have : pinV p ns = some [1, i, 0] := by unfold pinV; rw [hf ht]; rfl
        rw [this] at k
        exact k
      · refine hN ?_ _ _ ⟨_, _, _, rfl⟩ ((e2.trans e3).trans e4)
        unfold pinTest
        cases hpin : Kp430.pinAt p i with
        | none => rfl
        | some d =>
          rw [hpin] at hb
          rw [nv_eq, hc] at *
          simp at hb
          simp [hb]
    · rintro hno σ' H' ⟨v2, v3, v4, rfl⟩ e
      have : pinV p ns = none := by unfold pinV; rw [hno]; rfl
      rw [this] at k
      exact ret0 (σ := []) e k
/-! ### groups -/
def gsz (p : Page) (s : List Nat) : List V := (List.range 6).map fun g => nV (Kp430.countGroup p s g)
def rSizes (K : PySem.W.Frag) (CC CP : Addr) : List V → Hp → List V → Prop := fun vs H xs => ∃ a l p ns, Asked K CC CP vs H a l p ns ∧ xs = gsz p ns
abbrev s_group_sizes : Stmt := topS 47
theorem sc_group_sizes : FnScope ["page", "listed", "sizes", "candidate", "group"] ["page", "listed"] (defScope s_group_sizes) := ⟨rfl, rfl, rfl, by decide +kernel, rfl, by decide +kernel, by decide +kernel⟩
theorem ok_group_sizes (T : Txt K mg CC CP CS) (F : FunAt K mg "group_sizes" s_group_sizes ["page", "listed"]) : DefAt P w K mg base 1 "group_sizes" ["page", "listed"] (spL (rSizes K CC CP)) := by
  obtain ⟨f, fd, FF, hm, hb⟩ := F.ex
  refine ⟨f, fd, FF.ok sc_group_sizes (fun vs H Q E h => ?_) (fun cdv A outer s H vs Q E hr h => ⟨_, (pss_cons (ps_setLc (i := 2) (own := [("group", 4)]) rfl sc_group_sizes.nd rfl rfl (sw_true rfl rfl rfl (by decide +kernel)) (pi_range1 (by rfl) T.range (pa_cons (pe_gi T.GROUP_COUNT) pa_nil)) (blkOk_by (own := [("group", 4)]) (N := ["page", "listed", "sizes", "candidate", "group"]) (sc := defScope s_group_sizes) (by decide +kernel)) (fun _ _ _ _ _ => pg_name (i := 4) sc_group_sizes.nd rfl (Or.inl rfl)) (fun _ _ _ _ _ => pts_nil) (fun _ _ _ _ _ => pe_int))
      (pss_cons (ps_for PassesOwn.never rfl (wList (K := K) (pv 1)) (pg_name (i := 3) sc_group_sizes.nd rfl (Or.inl rfl))
        (pss_one (ps_augS (pv 2) (fldK (K := K) (pe_ix (ixL (K := K)) (fldK (K := K) (pv 0)) (pv 3) (fun _ _ => rfl))) (getL (K := K)) pe_int ip_add set_list)))
      (pss_one (ps_ret (pv 2))))), ?_⟩), hm, FF.kp, hb⟩
  · obtain ⟨z, ⟨_, _, _, _, ⟨rfl, _⟩, _⟩, _⟩ := h
    rfl
  · obtain ⟨z, ⟨a, l, p, ns, ⟨rfl, ⟨L, hp⟩, wf, hS, hin, hfit⟩, rfl⟩, k⟩ := h
    refine q_asgL (el_lcR (n := 6) (g := fun _ => nV 0) ev_c (by decide) (by intro _; rfl) fun i H1 e1 hi => ev_c) fun d H1 hd e1 h1 => ?_
    refine q_forLn (xs := ns.map nV) (ev_var (by rfl)) (ex_l e1 hS) (fun i σ' H' => ∃ v3, σ' = [some (.ref a), some (.ref l), some (.ref d), v3, none] ∧ Ex H H' ∧ H' d = some (.lst (gsz p (ns.take i))))
      (fun H2 e2 => ⟨none, rfl, e1.trans e2, ?_⟩) (fun i σ' H' _ ⟨_, _, q, _⟩ => ex_l q hS) ?_ ?_
    · rw [e2 _ _ h1]
      rfl
    · rintro i x σ' H' hi ⟨v3, rfl, eH, hD⟩
      obtain ⟨c, hc, rfl⟩ := getE_map hi
      have hcl := hin c (List.mem_of_getElem? hc)
      have hg := (at_ok wf hcl).gr
      have step : ns.take (i + 1) = ns.take i ++ [c] := by rw [List.take_add_one, hc]; rfl
      refine s_augL (j := (Kp430.at_ p c).group) (m := Kp430.countGroup p (ns.take i) (Kp430.at_ p c).group) (n := 1) hD (ev_var rfl) (pg_c_group T (hp.mono eH) hcl (ev_var rfl) (ev_var rfl)) ?_ ev_c fun H3 e3 => ⟨_, rfl, Ex.mut (eH.trans e3) hd, ?_⟩
      · unfold gsz
        rw [List.getElem?_map, List.getElem?_range hg]; rfl
      · rw [upd_same, step]
        congr 2
        unfold gsz
        refine List.ext_getElem (by simp) fun j h1 h2 => ?_
        rw [List.getElem_set]
        simp only [List.getElem_map, List.getElem_range, count_step]
        split
        · rename_i e
          rw [e]
          rfl
        · rfl
    · rintro σ' H' ⟨v3, rfl, eH, hD⟩
      rw [List.length_map, List.take_length] at hD
      refine s_ret (ev_var rfl) fun H2 e2 => ?_
      exact k d H2 hd (eH.trans e2) (e2 _ _ hD)
theorem pg_quota (h : PageL CC CP H a L p) (wf : Wf p) {g : Nat} (hg : g < 6) : ∃ q, L.qs[g]? = some q ∧ H q = some (.tup [nV (Kp430.quotaOf p g).lower, nV (Kp430.quotaOf p g).upper]) := by
  have hl : g < p.quotas.length := by rw [wf.qn]; exact hg
  have hl2 : g < L.qs.length := by rw [h.hql]; exact hl
  refine ⟨L.qs[g], List.getElem?_eq_getElem hl2, h.hqa g _ _ (List.getElem?_eq_getElem hl2) ?_⟩
  unfold Kp430.quotaOf
  rw [List.getD_eq_getElem?_getD, List.getElem?_eq_getElem hl]
  rfl
theorem pg_quotaEv (T : Txt K mg CC CP CS) (h : PageL CC CP H a L p) {g : Nat} {q : Addr} (hq : L.qs[g]? = some q) (e : Ev tp σ H (.ref a)) (ei : Ev tc σ H (nV g)) : Ev (tOp (rIxL K) (tFld K tp "quotas") tc) σ H (.ref q) :=
  ev_ixS (es_of (pg_quotas T h e) (sq_of h.hq)) ei (atI_nat (by rw [List.getElem?_map, hq]; rfl))
abbrev s_upper_quota_violation : Stmt := topS 48
theorem sc_upper_quota_violation : FnScope ["page", "listed", "group", "size"] ["page", "listed"] (defScope s_upper_quota_violation) := ⟨rfl, rfl, rfl, by decide +kernel, rfl, by decide +kernel, by decide +kernel⟩
theorem ok_upper_quota_violation (T : Txt K mg CC CP CS) (F : FunAt K mg "upper_quota_violation" s_upper_quota_violation ["page", "listed"]) (D_group_sizes : DefAt P w K mg base 1 "group_sizes" ["page", "listed"] (spL (rSizes K CC CP))) :
    DefAt P w K mg base 2 "upper_quota_violation" ["page", "listed"] (spL (rChk K CC CP Kp430.manyViolation)) := by
  obtain ⟨f, fd, FF, hm, hb⟩ := F.ex
  refine ⟨f, fd, FF.ok sc_upper_quota_violation (fun vs H Q E h => ?_) (fun cdv A outer s H vs Q E hr h => ⟨_, (pss_cons (ps_for PassesOwn.never rfl (wEnum (K := K) T.enumerate (pa_cons (pe_cd D_group_sizes (hr.mono (by decide)) pass0 (pa_cons (pv 0) (pa_cons (pv 1) pa_nil))) pa_nil)) (gTupK (K := K) (n := 2) (pgs_cons (pg_name (i := 2) sc_upper_quota_violation.nd rfl (Or.inl rfl)) (pgs_cons (pg_name (i := 3) sc_upper_quota_violation.nd rfl (Or.inl rfl)) pgs_nil)))
        (pss_one (ps_if (pt_cmpR op_gt (pv 3) (pe_ix (ixT (K := K)) (pe_ix (ixL (K := K)) (fldK (K := K) (pv 0)) (pv 2) (fun _ _ => rfl)) pe_int (fun _ _ => rfl)) (nomark _)) (pss_one (ps_ret (pe_lst (pa_cons pe_int (pa_cons (pv 2) (pa_cons pe_int pa_nil)))))) pss_nil)))
      (pss_one (ps_ret (pe_lst pa_nil)))), ?_⟩), hm, FF.kp, hb⟩
  · obtain ⟨z, ⟨_, _, _, _, ⟨rfl, _⟩, _⟩, _⟩ := h
    rfl
  · obtain ⟨z, ⟨a, l, p, ns, hA, rfl⟩, k⟩ := h
    have hA' := hA
    obtain ⟨rfl, ⟨L, hp⟩, wf, hS, hin, hfit⟩ := hA'
    refine seq_of (s_findE (fun σ => ∃ v2 v3, σ = [some (.ref a), some (.ref l), v2, v3]) (l := List.range 6) (r := fun g => nV (Kp430.countGroup p ns g)) (test := fun g => decide ((Kp430.quotaOf p g).upper < Kp430.countGroup p ns g))
      (es_new (el_cd (ea_cons (ev_var rfl) (ea_cons (ev_var rfl) ea_nil)) fun H1 e1 => ⟨a, l, p, ns, hA.mono e1, rfl⟩)) ⟨none, none, rfl⟩ ?_ ?_)
    · rintro H1 e1 i c σ' H' TT hc hf ⟨v2, v3, rfl⟩ e2 hT N hN
      have hi : i < 6 := by simpa using (List.getElem?_eq_some_iff.mp hc).1
      have hci : c = i := by rw [List.getElem?_range hi] at hc; exact (Option.some.inj hc).symm
      subst hci
      obtain ⟨q, hq, hqt⟩ := pg_quota (hp.mono (e1.trans e2)) wf hi
      refine g_pair hT (s_when (et_test (ev_is (ev_op (ev_var rfl) (ev_ixT (pg_quotaEv T (hp.mono (e1.trans e2)) hq (ev_var rfl) (ev_var rfl)) (st_of hqt) ev_c (atI_nat (j := 1) rfl)) rv_I0) nv_lt)) (fun hb H3 e4 => ?_) (fun hb H3 e4 => ?_))
      · refine ret3 (x := 2) (z := 0) ev_c (ev_var rfl) ev_c ((e1.trans e2).trans e4) ?_
        have : Kp430.manyViolation p ns = some [2, c, 0] := by
          unfold Kp430.manyViolation
          have h2 := hf hb
          rw [List.length_range] at h2
          rw [show Kp430.groupCount = 6 from rfl, h2]; rfl
        rw [this] at k
        exact k
      · exact hN hb _ _ ⟨_, _, rfl⟩ (e2.trans e4)
    · rintro hno σ' H' ⟨v2, v3, rfl⟩ e
      have : Kp430.manyViolation p ns = none := by
        unfold Kp430.manyViolation
        rw [List.length_range] at hno
        rw [show Kp430.groupCount = 6 from rfl, hno]; rfl
      rw [this] at k
      exact ret0 (σ := []) e k
abbrev s_lower_quota_violation : Stmt := topS 49
theorem sc_lower_quota_violation : FnScope ["page", "listed", "group", "size"] ["page", "listed"] (defScope s_lower_quota_violation) := ⟨rfl, rfl, rfl, by decide +kernel, rfl, by decide +kernel, by decide +kernel⟩
theorem ok_lower_quota_violation (T : Txt K mg CC CP CS) (F : FunAt K mg "lower_quota_violation" s_lower_quota_violation ["page", "listed"]) (D_group_sizes : DefAt P w K mg base 1 "group_sizes" ["page", "listed"] (spL (rSizes K CC CP))) :
    DefAt P w K mg base 2 "lower_quota_violation" ["page", "listed"] (spL (rChk K CC CP Kp430.fewViolation)) := by
  obtain ⟨f, fd, FF, hm, hb⟩ := F.ex
  refine ⟨f, fd, FF.ok sc_lower_quota_violation (fun vs H Q E h => ?_) (fun cdv A outer s H vs Q E hr h => ⟨_, (pss_cons (ps_for PassesOwn.never rfl (wEnum (K := K) T.enumerate (pa_cons (pe_cd D_group_sizes (hr.mono (by decide)) pass0 (pa_cons (pv 0) (pa_cons (pv 1) pa_nil))) pa_nil)) (gTupK (K := K) (n := 2) (pgs_cons (pg_name (i := 2) sc_lower_quota_violation.nd rfl (Or.inl rfl)) (pgs_cons (pg_name (i := 3) sc_lower_quota_violation.nd rfl (Or.inl rfl)) pgs_nil)))
        (pss_one (ps_if (pt_cmpR op_lt (pv 3) (pe_ix (ixT (K := K)) (pe_ix (ixL (K := K)) (fldK (K := K) (pv 0)) (pv 2) (fun _ _ => rfl)) pe_int (fun _ _ => rfl)) (nomark _)) (pss_one (ps_ret (pe_lst (pa_cons pe_int (pa_cons (pv 2) (pa_cons pe_int pa_nil)))))) pss_nil)))
      (pss_one (ps_ret (pe_lst pa_nil)))), ?_⟩), hm, FF.kp, hb⟩
  · obtain ⟨z, ⟨_, _, _, _, ⟨rfl, _⟩, _⟩, _⟩ := h
    rfl
  · obtain ⟨z, ⟨a, l, p, ns, hA, rfl⟩, k⟩ := h
    have hA' := hA
    obtain ⟨rfl, ⟨L, hp⟩, wf, hS, hin, hfit⟩ := hA'
    refine seq_of (s_findE (fun σ => ∃ v2 v3, σ = [some (.ref a), some (.ref l), v2, v3]) (l := List.range 6) (r := fun g => nV (Kp430.countGroup p ns g)) (test := fun g => decide (Kp430.countGroup p ns g < (Kp430.quotaOf p g).lower))
      (es_new (el_cd (ea_cons (ev_var rfl) (ea_cons (ev_var rfl) ea_nil)) fun H1 e1 => ⟨a, l, p, ns, hA.mono e1, rfl⟩)) ⟨none, none, rfl⟩ ?_ ?_)
    · rintro H1 e1 i c σ' H' TT hc hf ⟨v2, v3, rfl⟩ e2 hT N hN
      have hi : i < 6 := by simpa using (List.getElem?_eq_some_iff.mp hc).1
      have hci : c = i := by rw [List.getElem?_range hi] at hc; exact (Option.some.inj hc).symm
      subst hci
      obtain ⟨q, hq, hqt⟩ := pg_quota (hp.mono (e1.trans e2)) wf hi
      refine g_pair hT (s_when (et_test (ev_is (ev_op (ev_var rfl) (ev_ixT (pg_quotaEv T (hp.mono (e1.trans e2)) hq (ev_var rfl) (ev_var rfl)) (st_of hqt) ev_c (atI_nat (j := 0) rfl)) rv_I0) nv_lt)) (fun hb H3 e4 => ?_) (fun hb H3 e4 => ?_))
      · refine ret3 (x := 3) (z := 0) ev_c (ev_var rfl) ev_c ((e1.trans e2).trans e4) ?_
        have : Kp430.fewViolation p ns = some [3, c, 0] := by
          unfold Kp430.fewViolation
          have h2 := hf hb
          rw [List.length_range] at h2
          rw [show Kp430.groupCount = 6 from rfl, h2]; rfl
        rw [this] at k
        exact k
      · exact hN hb _ _ ⟨_, _, rfl⟩ (e2.trans e4)
    · rintro hno σ' H' ⟨v2, v3, rfl⟩ e
      have : Kp430.fewViolation p ns = none := by
        unfold Kp430.fewViolation
        rw [List.length_range] at hno
        rw [show Kp430.groupCount = 6 from rfl, hno]; rfl
      rw [this] at k
      exact ret0 (σ := []) e k
end
end Ps
end

section
set_option maxRecDepth 100000
set_option maxHeartbeats 2000000
namespace Ps
open PySem PySem.Spec PyProof.Rows L2 Evl
open Kp430 (Page Candidate Quota)
section
variable {P : Program} {w : World} {K : PySem.W.Frag} {mg : Str → Option Value} {base : Heap} {CC CP CS : Addr} {σ : L2.St} {H : Hp} {D : Ends} {t u : TS} {a : Addr} {L : Lay} {p : Page} {tp tc tl te to : TE}
abbrev crs (p : Page) (s : List Nat) : List Nat := s.map fun c => (Kp430.at_ p c).creator
def rCrs (K : PySem.W.Frag) (CC CP : Addr) : List V → Hp → List V → Prop := fun vs H xs => ∃ a l p ns, Asked9 K CC CP vs H a l p ns ∧ xs = (crs p ns).map nV
abbrev s_creators_of : Stmt := topS 50
theorem sc_creators_of : FnScope ["page", "listed", "candidate"] ["page", "listed"] (defScope s_creators_of) := ⟨rfl, rfl, rfl, by decide +kernel, rfl, by decide +kernel, by decide +kernel⟩
theorem ok_creators_of (T : Txt K mg CC CP CS) (F : FunAt K mg "creators_of" s_creators_of ["page", "listed"]) : DefAt P w K mg base 1 "creators_of" ["page", "listed"] (spL (rCrs K CC CP)) := by
  obtain ⟨f, fd, FF, hm, hb⟩ := F.ex
  refine ⟨f, fd, FF.ok sc_creators_of (fun vs H Q E h => ?_) (fun cdv A outer s H vs Q E hr h => ⟨_, (pss_one (ps_ret (pe_lc (own := [("candidate", 2)]) rfl sc_creators_of.nd (wList (K := K) (pv 1)) (blkOk_by (own := [("candidate", 2)]) (N := ["page", "listed", "candidate"]) (sc := defScope s_creators_of) (by decide +kernel)) (fun _ _ _ _ _ => pg_name (i := 2) sc_creators_of.nd rfl (Or.inl rfl)) (fun _ _ _ _ _ => pts_nil) (fun _ _ _ _ _ => (fldK (K := K) (pe_ix (ixL (K := K)) (fldK (K := K) (pv 0)) (pv 2) (fun _ _ => rfl))))))), ?_⟩), hm, FF.kp, hb⟩
  · obtain ⟨z, ⟨_, _, _, _, ⟨rfl, _⟩, _⟩, _⟩ := h
    rfl
  · obtain ⟨z, ⟨a, l, p, ns, hA, rfl⟩, k⟩ := h
    have h5 := hA.nine
    obtain ⟨rfl, ⟨L, hp⟩, wf, hS, hin, hfit⟩ := hA
    refine s_retL (EvL.is (el_lcM (g := fun c => nV (Kp430.at_ p c).creator) (es_of (ev_var (by rfl)) hS) (by omega) (by intro _; rfl) fun c H1 e1 hc => pg_c_creator T (hp.mono e1) (hin c hc) (ev_var rfl) (ev_var rfl)) ?_) fun d H1 hd e1 h1 => k d H1 hd e1 h1
    rw [List.map_map]; rfl
theorem ev_count {ns : List Int} {n : Int} (h : EvS K to σ H (ns.map V.int)) (he : Ev te σ H (.int n)) : Ev (tBM K "list" (rCntI K) to (tCons te tNil)) σ H (.int (ns.count n : Nat)) := fun H1 e Q q => h H1 e _ fun p H2 e2 hs =>
  ⟨Or.inl ⟨rfl, _, hs⟩, he H2 (e.trans e2) _ fun H3 e3 => ⟨p, ns, n, rfl, rfl, ex_l e3 hs, q H3 (e2.trans e3)⟩⟩
theorem count_cast (l : List Nat) (n : Nat) : (l.map fun m : Nat => (m : Int)).count (n : Int) = l.count n := by
  induction l with
  | nil => rfl
  | cons a l ih =>
    rw [List.map_cons, List.count_cons, List.count_cons, ih]
    congr 1
    by_cases h : a = n
    · simp [h]
    · have : ¬ (a : Int) = n := by omega
      simp [h, this]
abbrev s_limit_violation : Stmt := topS 51
theorem sc_limit_violation : FnScope ["page", "listed", "creators", "creator"] ["page", "listed"] (defScope s_limit_violation) := ⟨rfl, rfl, rfl, by decide +kernel, rfl, by decide +kernel, by decide +kernel⟩
theorem ok_limit_violation (T : Txt K mg CC CP CS) (F : FunAt K mg "limit_violation" s_limit_violation ["page", "listed"]) (D_creators_of : DefAt P w K mg base 1 "creators_of" ["page", "listed"] (spL (rCrs K CC CP))) :
    DefAt P w K mg base 2 "limit_violation" ["page", "listed"] (spL (rChk K CC CP Kp430.creatorViolation)) := by
  obtain ⟨f, fd, FF, hm, hb⟩ := F.ex
  refine ⟨f, fd, FF.ok sc_limit_violation (fun vs H Q E h => ?_) (fun cdv A outer s H vs Q E hr h => ⟨_, (pss_cons (ps_set (i := 2) sc_limit_violation.nd rfl (Or.inl rfl) (pe_cd D_creators_of (hr.mono (by decide)) pass0 (pa_cons (pv 0) (pa_cons (pv 1) pa_nil))))
      (pss_cons (ps_for PassesOwn.never rfl (wList (K := K) (pv 2)) (pg_name (i := 3) sc_limit_violation.nd rfl (Or.inl rfl))
        (pss_one (ps_if (pt_cmpR op_gt (bmK (K := K) PySem.F.plainAttrs_list PySem.F.slot_list_count PySem.F.type_list_count (countK (K := K)) (pv 2) (pa_cons (pv 3) pa_nil)) (fldK (K := K) (pv 0)) (nomark _)) (pss_one (ps_ret (pe_lst (pa_cons pe_int (pa_cons (pv 3) (pa_cons pe_int pa_nil)))))) pss_nil)))
      (pss_one (ps_ret (pe_lst pa_nil))))), ?_⟩), hm, FF.kp, hb⟩
  · obtain ⟨z, ⟨_, _, _, _, ⟨rfl, _⟩, _⟩, _⟩ := h
    rfl
  · obtain ⟨z, ⟨a, l, p, ns, hA, rfl⟩, k⟩ := h
    have hA' := hA
    obtain ⟨rfl, ⟨L, hp⟩, wf, hS, hin, hfit⟩ := hA'
    refine q_asgL (el_cd (ea_cons (ev_var rfl) (ea_cons (ev_var rfl) ea_nil)) fun H1 e1 => ⟨a, l, p, ns, hA.mono e1, rfl⟩) fun d H0 hd e0 h0 => ?_
    have hv : ∀ H1, Ex H0 H1 → ∀ σ : L2.St, σ[2]? = some (some (.ref d)) → EvS K (tVar 2) σ H1 ((crs p ns).map nV) := fun H1 e σ hh => es_of (ev_var hh) (sq_of (e _ _ h0))
    rw [creator_is] at k
    refine seq_of (s_findL (fun σ => ∃ v3, σ = [some (.ref a), some (.ref l), some (.ref d), v3]) (test := fun i => decide (p.creatorLimit < (crs p ns).count (Kp430.at_ p (ns.getD i 0)).creator)) (hv H0 (Ex.refl _) _ (by rfl)) ⟨none, rfl⟩ ?_ ?_)
    · rintro H1 e1 i c σ' H' hc hf ⟨v3, rfl⟩ e2 N hN
      obtain ⟨n, hn, rfl⟩ := getE_map hc
      have hg : ns.getD i 0 = n := by rw [List.getD_eq_getElem?_getD, hn]; rfl
      have E2 := (e0.trans e1).trans e2
      refine s_when (et_test (b := decide (p.creatorLimit < (crs p ns).count (Kp430.at_ p n).creator)) (ev_is (ev_op (ev_count (ns := (crs p ns).map fun m : Nat => (m : Int)) (EvS.is (hv H' (e1.trans e2) _ (by rfl)) (List.map_map (f := fun m : Nat => (m : Int)) (g := V.int)).symm) (ev_var rfl)) (pg_limit T (hp.mono E2) (ev_var rfl)) rv_I0) (by rw [count_cast]; exact nv_lt))) (fun hb H3 e4 => ?_) (fun hb H3 e4 => ?_)
      · refine ret3 (x := 4) (z := 0) ev_c (ev_var rfl) ev_c (E2.trans e4) ?_
        have h2 := hf (by rw [hg]; exact hb)
        rw [List.length_map] at h2
        rw [h2] at k
        have k2 : RetL ([4, (Kp430.at_ p (ns.getD i 0)).creator, 0].map nV) H Q := k
        rw [hg] at k2
        exact k2
      · exact hN (by rw [hg]; exact hb) _ _ ⟨_, rfl⟩ (e2.trans e4)
    · rintro hno σ' H' ⟨v3, rfl⟩ e
      rw [List.length_map] at hno
      rw [hno] at k
      exact ret0 (σ := []) (e0.trans e) k
abbrev s_spacing_violation : Stmt := topS 52
theorem sc_spacing_violation : FnScope ["page", "listed", "creators", "early", "late"] ["page", "listed"] (defScope s_spacing_violation) := ⟨rfl, rfl, rfl, by decide +kernel, rfl, by decide +kernel, by decide +kernel⟩
theorem ok_spacing_violation (T : Txt K mg CC CP CS) (F : FunAt K mg "spacing_violation" s_spacing_violation ["page", "listed"]) (D_creators_of : DefAt P w K mg base 1 "creators_of" ["page", "listed"] (spL (rCrs K CC CP))) :
    DefAt P w K mg base 2 "spacing_violation" ["page", "listed"] (spL (rChk K CC CP Kp430.nearViolation)) := by
  obtain ⟨f, fd, FF, hm, hb⟩ := F.ex
  refine ⟨f, fd, FF.ok sc_spacing_violation (fun vs H Q E h => ?_) (fun cdv A outer s H vs Q E hr h => ⟨_, (pss_cons (ps_set (i := 2) sc_spacing_violation.nd rfl (Or.inl rfl) (pe_cd D_creators_of (hr.mono (by decide)) pass0 (pa_cons (pv 0) (pa_cons (pv 1) pa_nil))))
      (pss_cons (ps_for PassesOwn.never rfl (pi_range1 (by rfl) T.range (pa_cons (pe_callB (lenK (K := K)) (by rfl) T.len (by decide +kernel) (pa_cons (pv 2) pa_nil)) pa_nil)) (pg_name (i := 3) sc_spacing_violation.nd rfl (Or.inl rfl))
        (pss_one (ps_for PassesOwn.never rfl (pi_range2 (by rfl) T.range (pa_cons (pe_op op_add (pv 3) pe_int) (pa_cons (pe_callB min2K (by rfl) T.min (by decide +kernel) (pa_cons (pe_callB (lenK (K := K)) (by rfl) T.len (by decide +kernel) (pa_cons (pv 2) pa_nil)) (pa_cons (pe_op op_add (pv 3) (fldK (K := K) (pv 0))) pa_nil))) pa_nil))) (pg_name (i := 4) sc_spacing_violation.nd rfl (Or.inl rfl))
        (pss_one (ps_if (pt_cmpR op_eq (pe_ix (ixL (K := K)) (pv 2) (pv 3) (fun _ _ => rfl)) (pe_ix (ixL (K := K)) (pv 2) (pv 4) (fun _ _ => rfl)) (nomark _)) (pss_one (ps_ret (pe_lst (pa_cons pe_int (pa_cons (pv 3) (pa_cons (pv 4) pa_nil)))))) pss_nil)))))
      (pss_one (ps_ret (pe_lst pa_nil))))), ?_⟩), hm, FF.kp, hb⟩
  · obtain ⟨z, ⟨_, _, _, _, ⟨rfl, _⟩, _⟩, _⟩ := h
    rfl
  · obtain ⟨z, ⟨a, l, p, ns, hA, rfl⟩, k⟩ := h
    have h5 := hA.few
    have hA' := hA
    obtain ⟨rfl, ⟨L, hp⟩, wf, hS, hin, hfit⟩ := hA'
    refine q_asgL (el_cd (ea_cons (ev_var rfl) (ea_cons (ev_var rfl) ea_nil)) fun H1 e1 => ⟨a, l, p, ns, hA.mono e1, rfl⟩) fun d H0 hd e0 h0 => ?_
    have hv : ∀ H1, Ex H0 H1 → ∀ σ : L2.St, σ[2]? = some (some (.ref d)) → EvS K (tVar 2) σ H1 ((crs p ns).map nV) := fun H1 e σ hh => es_of (ev_var hh) (sq_of (e _ _ h0))
    have hlen : ∀ H1, Ex H0 H1 → ∀ σ : L2.St, σ[2]? = some (some (.ref d)) → Ev (tCB (rLenS K) (tCons (tVar 2) tNil)) σ H1 (nV ns.length) := fun H1 e σ hh => ev_is (ev_lenS (hv H1 e σ hh)) (by rw [List.length_map, List.length_map])
    have hix : ∀ H1, Ex H0 H1 → ∀ (σ : L2.St) (te : TE) (i : Nat), σ[2]? = some (some (.ref d)) → i < ns.length → Ev te σ H1 (nV i) → Ev (tOp (rIxL K) (tVar 2) te) σ H1 (nV (Kp430.at_ p (ns.getD i 0)).creator) := fun H1 e σ te i hh hi he =>
      ev_ixS (hv H1 e σ hh) he (atI_nat (by rw [List.getElem?_map, List.getElem?_map, List.getD_eq_getElem?_getD, List.getElem?_eq_getElem hi]; rfl))
    rw [near_is, findSome_range] at k
    refine seq_of (s_findR (fun σ => ∃ v3 v4, σ = [some (.ref a), some (.ref l), some (.ref d), v3, v4]) (test := fun i => ((nearIn p ns i).map fun j => [5, i, i + 1 + j]).isSome) (hlen H0 (Ex.refl _) _ (by rfl)) (by omega) ⟨none, none, rfl⟩ ?_ ?_)
    · rintro i σ' H' hi hf ⟨v3, v4, rfl⟩ e2 N hN
      have E2 := e0.trans e2
      have hsp := wf.sp
      refine s_findR2 (fun σ => ∃ v4, σ = [some (.ref a), some (.ref l), some (.ref d), some (nV i), v4]) (lo := i + 1) (hi := nearHi p ns i) (test := nearTest p ns i) (ev_is (ev_op (ev_var rfl) ev_c rv_I0) (by simp)) ?_ (by omega) (by unfold nearHi; omega) ⟨v4, rfl⟩ ?_ ?_
      · refine ev_is (ev_min2 (hlen H' e2 _ (by rfl)) (ev_op (ev_var rfl) (pg_spacing T (hp.mono E2) (ev_var rfl)) rv_I0)) ?_
        unfold nearHi
        congr 1
        split <;> omega
      · rintro j σ2 H2 hj hf2 ⟨v5, rfl⟩ e3 N2 hN2
        have hj2 : i + 1 + j < ns.length := by unfold nearHi at hj; omega
        refine s_when (et_test (ev_is (ev_op (hix H2 (e2.trans e3) _ _ i (by rfl) hi (ev_var rfl)) (hix H2 (e2.trans e3) _ _ (i + 1 + j) (by rfl) hj2 (ev_var rfl)) (rv_eq rfl)) (by rw [nv_eq]))) (fun hb H3 e4 => ?_) (fun hb H3 e4 => ?_)
        · have ht : nearTest p ns i j = true := by
            unfold nearTest
            rw [beq_iff_eq]
            exact of_decide_eq_true hb
          have hin2 : nearIn p ns i = some j := hf2 ht
          refine ret3 (x := 5) ev_c (ev_var rfl) (ev_var rfl) ((E2.trans e3).trans e4) ?_
          rw [hf (by rw [hin2]; rfl)] at k
          have k2 : RetL ((((nearIn p ns i).map fun j => [5, i, i + 1 + j]).getD []).map nV) H Q := k
          rw [hin2] at k2
          exact k2
        · refine hN2 ?_ _ _ ⟨_, rfl⟩ (e3.trans e4)
          unfold nearTest
          rw [beq_eq_false_iff_ne]
          exact of_decide_eq_false hb
      · rintro hno σ2 H2 ⟨v5, rfl⟩ e3
        exact hN (by rw [show nearIn p ns i = none from hno]; rfl) _ _ ⟨_, _, rfl⟩ (e2.trans e3)
    · rintro hno σ' H' ⟨v3, v4, rfl⟩ e
      rw [hno] at k
      exact ret0 (σ := []) (e0.trans e) k
/-! ### forbidden pairs -/
theorem inV_nats (x : Nat) (l : List Nat) : inV (nV x) (l.map nV) = l.contains x := by
  unfold inV
  rw [List.any_map, List.contains_eq_any_beq, Bool.eq_iff_iff, List.any_eq_true, List.any_eq_true]
  refine exists_congr fun y => and_congr_right fun _ => ?_
  show ((y : Int) == (x : Int)) = true ↔ (x == y) = true
  rw [beq_iff_eq, beq_iff_eq]
  omega
theorem flat_nats (l : List Nat) : (l.map nV).all flatV = true := by
  rw [List.all_map, List.all_eq_true]
  exact fun _ _ => rfl
abbrev s_forbidden_violation : Stmt := topS 53
theorem sc_forbidden_violation : FnScope ["page", "listed", "smaller", "greater"] ["page", "listed"] (defScope s_forbidden_violation) := ⟨rfl, rfl, rfl, by decide +kernel, rfl, by decide +kernel, by decide +kernel⟩
theorem ok_forbidden_violation (T : Txt K mg CC CP CS) (F : FunAt K mg "forbidden_violation" s_forbidden_violation ["page", "listed"]) : DefAt P w K mg base 1 "forbidden_violation" ["page", "listed"] (spL (rChk K CC CP Kp430.pairViolation)) := by
  obtain ⟨f, fd, FF, hm, hb⟩ := F.ex
  refine ⟨f, fd, FF.ok sc_forbidden_violation (fun vs H Q E h => ?_) (fun cdv A outer s H vs Q E hr h => ⟨_, (pss_cons (ps_for PassesOwn.never rfl (wList (K := K) (fldK (K := K) (pv 0))) (gTupK (K := K) (n := 2) (pgs_cons (pg_name (i := 2) sc_forbidden_violation.nd rfl (Or.inl rfl)) (pgs_cons (pg_name (i := 3) sc_forbidden_violation.nd rfl (Or.inl rfl)) pgs_nil)))
        (pss_one (ps_if (PW.pt (pw_and (pt_cmpR (inK (K := K)) (pv 2) (pv 1) (by rfl)) (pw_and1 (pt_cmpR (inK (K := K)) (pv 3) (pv 1) (by rfl))))) (pss_one (ps_ret (pe_lst (pa_cons pe_int (pa_cons (pv 2) (pa_cons (pv 3) pa_nil)))))) pss_nil)))
      (pss_one (ps_ret (pe_lst pa_nil)))), ?_⟩), hm, FF.kp, hb⟩
  · obtain ⟨z, ⟨_, _, _, _, ⟨rfl, _⟩, _⟩, _⟩ := h
    rfl
  · obtain ⟨z, ⟨a, l, p, ns, ⟨rfl, ⟨L, hp⟩, wf, hS, hin, hfit⟩, rfl⟩, k⟩ := h
    have hpv : Kp430.pairViolation p ns = ((List.range p.forbidden.length).find? fun i => ns.contains (p.forbidden.getD i (0, 0)).1 && ns.contains (p.forbidden.getD i (0, 0)).2).map fun i => [6, (p.forbidden.getD i (0, 0)).1, (p.forbidden.getD i (0, 0)).2] := by
      unfold Kp430.pairViolation
      rw [find_list p.forbidden _ (fun i => ns.contains (p.forbidden.getD i (0, 0)).1 && ns.contains (p.forbidden.getD i (0, 0)).2) (fun i x h => by rw [List.getD_eq_getElem?_getD, h]; rfl)]
      cases e : (List.range p.forbidden.length).find? fun i => ns.contains (p.forbidden.getD i (0, 0)).1 && ns.contains (p.forbidden.getD i (0, 0)).2 with
      | none => rfl
      | some q =>
        have hk := (find_map_fst _ _ e).1
        simp [List.getD_eq_getElem?_getD, List.getElem?_eq_getElem hk]
    rw [hpv] at k
    refine seq_of (s_findL (fun σ => ∃ v2 v3, σ = [some (.ref a), some (.ref l), v2, v3]) (test := fun i => ns.contains (p.forbidden.getD i (0, 0)).1 && ns.contains (p.forbidden.getD i (0, 0)).2) (es_of (pg_forbidden T hp (ev_var rfl)) (sq_of hp.hf)) ⟨none, none, rfl⟩ ?_ ?_)
    · rintro H1 e1 i q σ' H' hc hf ⟨v2, v3, rfl⟩ e2 N hN
      have hl := (List.getElem?_eq_some_iff.mp hc).1
      rw [hp.hfl] at hl hf
      have hx : p.forbidden[i]? = some (p.forbidden.getD i (0, 0)) := by rw [List.getD_eq_getElem?_getD, List.getElem?_eq_getElem hl]; rfl
      have hT := (e1.trans e2) _ _ (hp.hfa i q _ hc hx)
      have hv : ∀ H3, Ex H' H3 → ∀ σ : L2.St, σ[1]? = some (some (.ref l)) → Ev (tVar 1) σ H3 (.ref l) := fun H3 e σ hh => ev_var hh
      refine g_pair hT (s_when (et_and (et_test (ev_op (ev_var rfl) (ev_var (by rfl)) (rv_isL (ex_l (e1.trans e2) hS) rfl (flat_nats ns)))) fun _ => et_test (ev_op (ev_var rfl) (ev_var (by rfl)) (rv_isL (ex_l (e1.trans e2) hS) rfl (flat_nats ns)))) (fun hb H3 e4 => ?_) (fun hb H3 e4 => ?_))
      · rw [inV_nats, inV_nats] at hb
        refine ret3 (x := 6) ev_c (ev_var rfl) (ev_var rfl) ((e1.trans e2).trans e4) ?_
        rw [hf hb] at k
        exact k
      · rw [inV_nats, inV_nats] at hb
        exact hN hb _ _ ⟨_, _, rfl⟩ (e2.trans e4)
    · rintro hno σ' H' ⟨v2, v3, rfl⟩ e
      rw [hp.hfl] at hno
      rw [hno] at k
      exact ret0 (σ := []) e k
/-! ### fresh ones -/
abbrev s_freshness_violation : Stmt := topS 54
theorem sc_freshness_violation : FnScope ["page", "listed", "ages", "fresh", "candidate", "age"] ["page", "listed"] (defScope s_freshness_violation) := ⟨rfl, rfl, rfl, by decide +kernel, rfl, by decide +kernel, by decide +kernel⟩
theorem ok_freshness_violation (T : Txt K mg CC CP CS) (F : FunAt K mg "freshness_violation" s_freshness_violation ["page", "listed"]) : DefAt P w K mg base 1 "freshness_violation" ["page", "listed"] (spL (rChk K CC CP Kp430.freshViolation)) := by
  obtain ⟨f, fd, FF, hm, hb⟩ := F.ex
  refine ⟨f, fd, FF.ok sc_freshness_violation (fun vs H Q E h => ?_) (fun cdv A outer s H vs Q E hr h => ⟨_, (pss_cons (ps_setLc (i := 2) (own := [("candidate", 4)]) rfl sc_freshness_violation.nd rfl rfl (sw_true rfl rfl rfl (by decide +kernel)) (wList (K := K) (pv 1)) (blkOk_by (own := [("candidate", 4)]) (N := ["page", "listed", "ages", "fresh", "candidate", "age"]) (sc := defScope s_freshness_violation) (by decide +kernel)) (fun _ _ _ _ _ => pg_name (i := 4) sc_freshness_violation.nd rfl (Or.inl rfl)) (fun _ _ _ _ _ => pts_nil) (fun _ _ _ _ _ => (fldK (K := K) (pe_ix (ixL (K := K)) (fldK (K := K) (pv 0)) (pv 4) (fun _ _ => rfl)))))
      (pss_cons (ps_set (i := 3) sc_freshness_violation.nd rfl (Or.inl rfl) (pe_callB (lenK (K := K)) (by rfl) T.len (by decide +kernel) (pa_cons (pe_lc (own := [("age", 5)]) rfl sc_freshness_violation.nd (wList (K := K) (pv 2)) (blkOk_by (own := [("age", 5)]) (N := ["page", "listed", "ages", "fresh", "candidate", "age"]) (sc := defScope s_freshness_violation) (by decide +kernel)) (fun _ _ _ _ _ => pg_name (i := 5) sc_freshness_violation.nd rfl (Or.inl rfl)) (fun _ _ _ _ _ => pts_one (pt_cmpR op_le (pv 5) (fldK (K := K) (pv 0)) (nomark _))) (fun _ _ _ _ _ => (pv 5))) pa_nil)))
      (pss_cons (ps_if (pt_cmpR op_lt (pv 3) (fldK (K := K) (pv 0)) (nomark _)) (pss_one (ps_ret (pe_lst (pa_cons pe_int (pa_cons (pv 3) (pa_cons pe_int pa_nil)))))) pss_nil)
      (pss_one (ps_ret (pe_lst pa_nil)))))), ?_⟩), hm, FF.kp, hb⟩
  · obtain ⟨z, ⟨_, _, _, _, ⟨rfl, _⟩, _⟩, _⟩ := h
    rfl
  · obtain ⟨z, ⟨a, l, p, ns, hA, rfl⟩, k⟩ := h
    have h5 := hA.few
    obtain ⟨rfl, ⟨L, hp⟩, wf, hS, hin, hfit⟩ := hA
    refine q_asgL (el_lcM (g := fun c => nV (Kp430.at_ p c).age) (es_of (ev_var (by rfl)) hS) (by omega) (by intro _; rfl) fun c H1 e1 hc => pg_c_age T (hp.mono e1) (hin c hc) (ev_var rfl) (ev_var rfl)) fun d H0 hd e0 h0 => ?_
    refine q_asg (v := nV (ns.filter (Kp430.isFresh p)).length) (ev_is (ev_lenS (es_new (el_lcS (l := ns.map fun c => (Kp430.at_ p c).age) (r := nV) (d := fun n => decide (n ≤ p.freshAge)) (g := nV) (EvS.is (es_of (ev_var (by rfl)) (sq_of h0)) (by rw [List.map_map]; rfl)) (by rw [List.length_map]; omega) (by intro _; rfl) (fun n H1 e1 _ => ?_) fun n H1 e1 _ _ => ev_var rfl))) ?_) fun H1 e1 => ?_
    · exact et_test (ev_is (ev_op (ev_var rfl) (pg_fresh_age T (hp.mono (e0.trans e1)) (ev_var rfl)) rv_I0) nv_le)
    · rw [List.length_map, fresh_is]
    · refine q_when (et_test (ev_is (ev_op (ev_var rfl) (pg_fresh_least T (hp.mono (e0.trans e1)) (ev_var rfl)) rv_I0) nv_lt)) (fun hb H3 e4 => ?_) (fun hb H3 e4 => ?_)
      · refine ret3 (x := 7) (z := 0) ev_c (ev_var rfl) ev_c ((e0.trans e1).trans e4) ?_
        have : Kp430.freshViolation p ns = some [7, (ns.filter (Kp430.isFresh p)).length, 0] := if_pos (of_decide_eq_true hb)
        rw [this] at k
        exact k
      · have : Kp430.freshViolation p ns = none := if_neg (of_decide_eq_false hb)
        rw [this] at k
        exact ret0 (σ := []) ((e0.trans e1).trans e4) k
end
end Ps
end

section
set_option maxRecDepth 100000
set_option maxHeartbeats 2000000
namespace Ps
open PySem PySem.Spec PyProof.Rows L2 Evl
open Kp430 (Page Candidate Quota)
/-! A call of a local name that holds one of several defs. -/
def tCallR (i : Nat) (S : Addr → Sp → Prop) (t : TA) : TE := fun σ H Q => ∃ f sp, σ[i]? = some (some (.ref f)) ∧ S f sp ∧ t σ H fun vs H1 => sp vs H1 Q (fun _ _ _ => False)
theorem pe_callR {X : Cx} {k i : Nat} {x : Str} {p pos : Pos} {e : Expr} {es : List Expr} {t : TA} {S : Addr → Sp → Prop} (A : ∀ f sp, S f sp → Held X.prog X.w X.K X.mg X.base k f sp) (hr : Room k X.A) (ha : PA X (e :: es) t) (hN : X.N[i]? = some x := by rfl)
    (hv : Vis X.env.scope x := by first | exact Or.inl rfl | exact Or.inr (Or.inl rfl)) (hdb : (x == ("__debug__" : Str)) = false := by decide) (hcd : (x == ("__classdict__" : Str)) = false := by decide)
    (he : starEach (e :: es) X.env = (false, eval e X.env) :: starEach es X.env := by rfl) (hpl : (backTo pos (starEach es X.env)).any (·.1) = false := by rfl) : PE X (.Call (.Name x p) (e :: es) [] pos) (tCallR i S t) := by
  refine ⟨fun pins s σ H Q I h => ?_⟩
  obtain ⟨f, sp, hs, hS, ht⟩ := h
  obtain ⟨fd, ps, F, hk, hb⟩ := (A f sp hS).ex
  refine (pe_callL (i := i) (f := f) (sp := sp) (dvs := []) (E := fun _ _ _ => False) F hr hN hv hk hb .nil (fun _ _ _ _ _ _ _ z => z.elim) ha hdb hcd he hpl).run pins s σ H Q I ⟨hs, ?_⟩
  have e0 : (fun (vs : List V) (H1 : Hp) => sp (vs ++ []) H1 Q (fun _ _ _ => False)) = fun vs H1 => sp vs H1 Q (fun _ _ _ => False) := by
    funext vs H1
    rw [List.append_nil]
  rw [e0]
  exact ht
/-- the names of a tuple of defs -/
structure TupAt (K : PySem.W.Frag) (mg : Str → Option Value) (x : Str) (xs : List Str) : Prop where
  ex : ∃ (r : Addr) (fs : List Addr), mg x = some (.ref r) ∧ (∀ H, SqT K H r (fs.map V.ref)) ∧ fs.length = xs.length ∧ ∀ (i : Nat) (f : Addr) (y : Str), fs[i]? = some f → xs[i]? = some y → mg y = some (.ref f)
theorem DefAt.mono {P : Program} {w : World} {K : PySem.W.Frag} {mg : Str → Option Value} {base : Heap} {j k : Nat} {x : Str} {ps : List Str} {sp : Sp} (D : DefAt P w K mg base j x ps sp) (h : j ≤ k) : DefAt P w K mg base k x ps sp := by
  obtain ⟨f, fd, F, r⟩ := D.ex
  exact ⟨f, fd, F.mono h, r⟩
section
variable {P : Program} {w : World} {K : PySem.W.Frag} {mg : Str → Option Value} {base : Heap} {CC CP CS : Addr} {σ : L2.St} {H : Hp} {D : Ends} {tl te : TE} {tu : TS} {g : TG}
abbrev Chk := Page → List Nat → Option (List Nat)
/-- over a tuple, by places -/
theorem s_findT (S : L2.St → Prop) {r : Addr} {xs : List V} {test : Nat → Bool} (h : Ev tl σ H (.ref r)) (hx : ∀ H, SqT K H r xs) (hS : S σ)
    (hs : ∀ (i : Nat) (x : V) σ' H', xs[i]? = some x → (test i = true → (List.range xs.length).find? test = some i) → S σ' → Ex H H' → ∀ N : L2.St → Hp → Prop, (test i = false → ∀ σ3 H3, S σ3 → Ex H H3 → N σ3 H3) →
      g x σ' H' fun σ2 H2 => tu { D with nx := N, ct := N, bk := D.nx } σ2 H2)
    (hd : (List.range xs.length).find? test = none → ∀ σ' H', S σ' → Ex H H' → D.nx σ' H') : tFor (iTup K tl) g tu D σ H :=
  h H (Ex.refl H) _ fun H1 e1 => ⟨r, rfl, ⟨_, hx _⟩, for_it (n := xs.length) walk_tup (fun i σ' H' => S σ' ∧ Ex H H' ∧ ∀ j, j < i → test j = false) ⟨hS, e1, fun j hj => absurd hj (Nat.not_lt_zero j)⟩ (fun i σ' H' _ q => hx _)
    (fun i x σ' H' H'' hi q y => by
      obtain ⟨rfl, hxi⟩ := y
      exact hs i x σ' H'' hxi (fun ht => find_first hi q.2.2 ht) q.1 q.2.1 _ fun ht σ3 H3 s3 e3 => ⟨s3, e3, more_no q.2.2 ht⟩)
    (fun σ' H' q => hd (find_not fun j hj => q.2.2 j hj) σ' H' q.1 q.2.1)⟩
/-- which def keeps which promise -/
def ChkS (K : PySem.W.Frag) (CC CP : Addr) (mg : Str → Option Value) (cs : List (Str × Chk)) : Addr → Sp → Prop := fun f sp => ∃ q ∈ cs, mg q.1 = some (.ref f) ∧ sp = spL (rChk K CC CP q.2)
theorem chk_held {k : Nat} {cs : List (Str × Chk)} (D : ∀ q ∈ cs, DefAt P w K mg base k q.1 ["page", "listed"] (spL (rChk K CC CP q.2))) : ∀ f sp, ChkS K CC CP mg cs f sp → Held P w K mg base k f sp := by
  rintro f sp ⟨q, hq, hm, rfl⟩
  obtain ⟨f', fd, F, hm', hk, hb⟩ := (D q hq).ex
  rw [hm] at hm'
  cases hm'
  exact ⟨fd, _, F, hk, hb⟩
theorem el_callR {i : Nat} {f : Addr} {S : Addr → Sp → Prop} {R : List V → Hp → List V → Prop} {tz : TA} {vs xs : List V} (hs : σ[i]? = some (some (.ref f))) (hS : S f (spL R)) (h : EvA tz σ H vs) (r : ∀ H1, Ex H H1 → R vs H1 xs) : EvL (tCallR i S tz) σ H xs := fun H1 e Q q =>
  ⟨f, _, hs, hS, h H1 e _ fun H2 e2 => ⟨xs, r H2 (e.trans e2), fun p H3 hp e3 h3 => q p H3 (fresh_back e2 hp) (e2.trans e3) h3⟩⟩
def slateChks : List (Str × Chk) := [("pin_violation", pinV), ("upper_quota_violation", Kp430.manyViolation), ("lower_quota_violation", Kp430.fewViolation), ("limit_violation", Kp430.creatorViolation), ("spacing_violation", Kp430.nearViolation), ("forbidden_violation", Kp430.pairViolation), ("freshness_violation", Kp430.freshViolation)]
def begChks : List (Str × Chk) := [("pin_violation", pinV), ("upper_quota_violation", Kp430.manyViolation), ("limit_violation", Kp430.creatorViolation), ("spacing_violation", Kp430.nearViolation), ("forbidden_violation", Kp430.pairViolation)]
def Full (F : Chk) : Prop := ∀ p s v, F p s = some v → v ≠ []
theorem full_map {α : Type} {o : Option α} {f : α → List Nat} {v : List Nat} (hf : ∀ a, f a ≠ []) (h : o.map f = some v) : v ≠ [] := by
  obtain ⟨a, _, rfl⟩ := Option.map_eq_some_iff.mp h
  exact hf a
theorem full_slate : ∀ q ∈ slateChks, Full q.2 := by
  intro q hq
  simp only [slateChks, List.mem_cons, List.not_mem_nil, or_false] at hq
  rcases hq with rfl | rfl | rfl | rfl | rfl | rfl | rfl <;> intro p s v h
  · exact full_map (fun _ => List.cons_ne_nil _ _) h
  · exact full_map (fun _ => List.cons_ne_nil _ _) h
  · exact full_map (fun _ => List.cons_ne_nil _ _) h
  · exact full_map (fun _ => List.cons_ne_nil _ _) h
  · exact full_map (fun _ => List.cons_ne_nil _ _) h
  · exact full_map (fun _ => List.cons_ne_nil _ _) h
  · have h : (if _ then some _ else none) = some v := h
    split at h
    · cases h; exact List.cons_ne_nil _ _
    · cases h
theorem full_beg : ∀ q ∈ begChks, Full q.2 := fun q hq => full_slate q (by
  simp only [begChks, List.mem_cons, List.not_mem_nil, or_false] at hq
  simp only [slateChks, List.mem_cons, List.not_mem_nil, or_false]
  rcases hq with rfl | rfl | rfl | rfl | rfl <;> simp)
theorem vL_empty {F : Chk} (hF : Full F) (p : Page) (s : List Nat) : (vL (F p s)).isEmpty = (F p s).isNone := by
  cases h : F p s with
  | none => rfl
  | some v =>
    cases v with
    | nil => exact absurd rfl (hF p s _ h)
    | cons a l => rfl
/-- the i-th check of a list -/
def chkAt (cs : List (Str × Chk)) (i : Nat) : Chk := (cs.getD i ("", fun _ _ => none)).2
theorem chk_mem {cs : List (Str × Chk)} {i : Nat} (h : i < cs.length) : ∃ x, cs[i]? = some (x, chkAt cs i) ∧ (x, chkAt cs i) ∈ cs := by
  refine ⟨cs[i].1, ?_, ?_⟩
  · unfold chkAt
    rw [List.getD_eq_getElem?_getD, List.getElem?_eq_getElem h]
    rfl
  · unfold chkAt
    rw [List.getD_eq_getElem?_getD, List.getElem?_eq_getElem h]
    exact List.getElem_mem h
theorem findSome_list {α β : Type} {l : List α} {F : α → Option β} {t : Nat → Option β} (h : ∀ (i : Nat) (a : α), l[i]? = some a → t i = F a) : l.findSome? F = ((List.range l.length).find? fun i => (t i).isSome).bind t := by
  rw [← findSome_range]
  have : l = (List.range l.length).pmap (fun i hi => l[i]'hi) (fun i hi => List.mem_range.mp hi) := by
    refine List.ext_getElem (by simp) fun i h1 h2 => ?_
    simp
  have h2 : ∀ n, n ≤ l.length → (l.take n).findSome? F = (List.range n).findSome? t := by
    intro n
    induction n with
    | zero => intro _; rfl
    | succ n ih =>
      intro hn
      have e1 : l[n]? = some l[n] := List.getElem?_eq_getElem hn
      rw [List.take_add_one, e1, List.range_succ, List.findSome?_append, List.findSome?_append, ih (by omega)]
      congr 1
      show List.findSome? F [l[n]] = List.findSome? t [n]
      rw [List.findSome?_cons, List.findSome?_cons, h n _ e1]
      rfl
  have := h2 l.length (Nat.le_refl _)
  rwa [List.take_length] at this
def rFirst (K : PySem.W.Frag) (CC CP : Addr) : List V → Hp → List V → Prop := fun vs H xs => ∃ a l p ns, Asked K CC CP vs H a l p ns ∧ ns.length = p.weights.length ∧ xs = vL (Kp430.violation p ns)
theorem violation_is {p : Page} {s : List Nat} (h : s.length = p.weights.length) : Kp430.violation p s = ((List.range 7).find? fun i => (chkAt slateChks i p s).isSome).bind fun i => chkAt slateChks i p s := by
  have e : Kp430.violation p s = slateChks.findSome? fun q => q.2 p s := by
    unfold Kp430.violation slateChks
    simp only [List.findSome?_cons, List.findSome?_nil, id]
    rw [pinV_slate (show s.length = Kp430.positions p from h)]
  rw [e]
  refine findSome_list fun i q hq => ?_
  unfold chkAt
  rw [List.getD_eq_getElem?_getD, hq]
  rfl
abbrev s_first_violation : Stmt := topS 58
theorem sc_first_violation : FnScope ["page", "slate", "check", "found"] ["page", "slate"] (defScope s_first_violation) := ⟨rfl, rfl, rfl, by decide +kernel, rfl, by decide +kernel, by decide +kernel⟩
theorem ok_first_violation (T : Txt K mg CC CP CS) (TT : TupAt K mg "SLATE_CHECKS" (slateChks.map (·.1))) (F : FunAt K mg "first_violation" s_first_violation ["page", "slate"]) (Dc : ∀ q ∈ slateChks, DefAt P w K mg base 2 q.1 ["page", "listed"] (spL (rChk K CC CP q.2))) :
    DefAt P w K mg base 3 "first_violation" ["page", "slate"] (spL (rFirst K CC CP)) := by
  obtain ⟨f, fd, FF, hm, hb⟩ := F.ex
  obtain ⟨r, fs, hr0, hsq, hfl, hfm⟩ := TT.ex
  have A_check : ∀ f sp, ChkS K CC CP mg slateChks f sp → Held P w K mg base 2 f sp := chk_held Dc
  refine ⟨f, fd, FF.ok sc_first_violation (fun vs H Q E h => ?_) (fun cdv A outer s H vs Q E hr h => ⟨_, (pss_cons (ps_for PassesOwn.never rfl (wTup (K := K) (pe_gr hr0)) (pg_name (i := 2) sc_first_violation.nd rfl (Or.inl rfl))
        (pss_cons (ps_set (i := 3) sc_first_violation.nd rfl (Or.inl rfl) (pe_callR (i := 2) A_check (hr.mono (by decide)) (pa_cons (pv 0) (pa_cons (pv 1) pa_nil))))
      (pss_one (ps_if (truK (K := K) (pv 3)) (pss_one (ps_ret (pv 3))) pss_nil))))
      (pss_one (ps_ret (pe_lst pa_nil)))), ?_⟩), hm, FF.kp, hb⟩
  · obtain ⟨z, ⟨_, _, _, _, ⟨rfl, _⟩, _⟩, _⟩ := h
    rfl
  · obtain ⟨z, ⟨a, l, p, ns, hA, hfull, rfl⟩, k⟩ := h
    have hA' := hA
    obtain ⟨rfl, ⟨L, hp⟩, wf, hS, hin, hfit⟩ := hA'
    rw [violation_is hfull] at k
    have hl7 : (fs.map V.ref).length = 7 := by rw [List.length_map, hfl]; rfl
    refine seq_of (s_findT (fun σ => ∃ v2 v3, σ = [some (.ref a), some (.ref l), v2, v3]) (test := fun i => (chkAt slateChks i p ns).isSome) ev_c hsq ⟨none, none, rfl⟩ ?_ ?_)
    · rintro i x σ' H' hx hf ⟨v2, v3, rfl⟩ e2 N hN
      obtain ⟨g, hg, rfl⟩ := getE_map hx
      have hi : i < slateChks.length := by
        have := (List.getElem?_eq_some_iff.mp hg).1
        rw [hfl, List.length_map] at this
        exact this
      obtain ⟨y, hy, hmem⟩ := chk_mem hi
      have hmg := hfm i g y hg (by rw [List.getElem?_map, hy]; rfl)
      refine q_asgL (el_callR rfl ⟨_, hmem, hmg, rfl⟩ (ea_cons (ev_var rfl) (ea_cons (ev_var rfl) ea_nil)) fun H1 e1 => ⟨a, l, p, ns, hA.mono (e2.trans e1), rfl⟩) fun d H1 hd e1 h1 => ?_
      refine s_when (et_tru (es_of (ev_var rfl) (sq_of h1))) (fun hb H3 e4 => ?_) (fun hb H3 e4 => ?_)
      · rw [vL_empty (full_slate _ hmem)] at hb
        have ht : (chkAt slateChks i p ns).isSome = true := by rw [← Option.not_isNone]; exact hb
        have h2 := hf ht
        rw [hl7] at h2
        rw [h2] at k
        refine s_ret (ev_var rfl) fun H5 e5 => ?_
        exact k d H5 (fresh_back e2 hd) (((e2.trans e1).trans e4).trans e5) ((e4.trans e5) _ _ h1)
      · rw [vL_empty (full_slate _ hmem)] at hb
        refine hN ?_ _ _ ⟨_, _, rfl⟩ ((e2.trans e1).trans e4)
        show (chkAt slateChks i p ns).isSome = false
        rw [← Option.not_isNone]; exact hb
    · rintro hno σ' H' ⟨v2, v3, rfl⟩ e
      rw [hl7] at hno
      rw [hno] at k
      exact ret0 (σ := []) e k
def rPoss (K : PySem.W.Frag) (CC CP : Addr) : List V → Hp → V → Prop := fun vs H z => ∃ a l p ns, Asked K CC CP vs H a l p ns ∧ z = .bl (Kp430.isPossible p ns)
theorem possible_is (p : Page) (s : List Nat) : Kp430.isPossible p s = ((List.range 5).find? fun i => (chkAt begChks i p s).isSome).isNone := by
  unfold Kp430.isPossible
  refine (congrArg (fun b => b && (Kp430.manyViolation p s).isNone && (Kp430.creatorViolation p s).isNone && (Kp430.nearViolation p s).isNone && (Kp430.pairViolation p s).isNone) (pinV_none (p := p) (s := s)).symm).trans ?_
  rw [show List.range 5 = [0, 1, 2, 3, 4] from rfl]
  simp only [List.find?_cons, List.find?_nil]
  show ((pinV p s).isNone && (Kp430.manyViolation p s).isNone && (Kp430.creatorViolation p s).isNone && (Kp430.nearViolation p s).isNone && (Kp430.pairViolation p s).isNone) =
    (match (pinV p s).isSome with | true => some 0 | false => match (Kp430.manyViolation p s).isSome with | true => some 1 | false => match (Kp430.creatorViolation p s).isSome with | true => some 2 | false => match (Kp430.nearViolation p s).isSome with | true => some 3 | false => match (Kp430.pairViolation p s).isSome with | true => some 4 | false => (none : Option Nat)).isNone
  cases pinV p s <;> cases Kp430.manyViolation p s <;> cases Kp430.creatorViolation p s <;> cases Kp430.nearViolation p s <;> cases Kp430.pairViolation p s <;> rfl
abbrev s_is_possible : Stmt := topS 61
theorem sc_is_possible : FnScope ["page", "beginning", "check"] ["page", "beginning"] (defScope s_is_possible) := ⟨rfl, rfl, rfl, by decide +kernel, rfl, by decide +kernel, by decide +kernel⟩
theorem ok_is_possible (T : Txt K mg CC CP CS) (TT : TupAt K mg "BEGINNING_CHECKS" (begChks.map (·.1))) (F : FunAt K mg "is_possible" s_is_possible ["page", "beginning"]) (Dc : ∀ q ∈ begChks, DefAt P w K mg base 2 q.1 ["page", "listed"] (spL (rChk K CC CP q.2))) :
    DefAt P w K mg base 3 "is_possible" ["page", "beginning"] (spV (rPoss K CC CP)) := by
  obtain ⟨f, fd, FF, hm, hb⟩ := F.ex
  obtain ⟨r, fs, hr0, hsq, hfl, hfm⟩ := TT.ex
  have A_check : ∀ f sp, ChkS K CC CP mg begChks f sp → Held P w K mg base 2 f sp := chk_held Dc
  refine ⟨f, fd, FF.ok sc_is_possible (fun vs H Q E h => ?_) (fun cdv A outer s H vs Q E hr h => ⟨_, (pss_cons (ps_for PassesOwn.never rfl (wTup (K := K) (pe_gr hr0)) (pg_name (i := 2) sc_is_possible.nd rfl (Or.inl rfl))
        (pss_one (ps_if (truK (K := K) (pe_callR (i := 2) A_check (hr.mono (by decide)) (pa_cons (pv 0) (pa_cons (pv 1) pa_nil)))) (pss_one (ps_ret pe_bl)) pss_nil)))
      (pss_one (ps_ret pe_bl))), ?_⟩), hm, FF.kp, hb⟩
  · obtain ⟨z, ⟨_, _, _, _, ⟨rfl, _⟩, _⟩, _⟩ := h
    rfl
  · obtain ⟨z, ⟨a, l, p, ns, hA, rfl⟩, k⟩ := h
    have hA' := hA
    obtain ⟨rfl, ⟨L, hp⟩, wf, hS, hin, hfit⟩ := hA'
    rw [possible_is] at k
    have hl5 : (fs.map V.ref).length = 5 := by rw [List.length_map, hfl]; rfl
    refine seq_of (s_findT (fun σ => ∃ v2, σ = [some (.ref a), some (.ref l), v2]) (test := fun i => (chkAt begChks i p ns).isSome) ev_c hsq ⟨none, rfl⟩ ?_ ?_)
    · rintro i x σ' H' hx hf ⟨v2, rfl⟩ e2 N hN
      obtain ⟨g, hg, rfl⟩ := getE_map hx
      have hi : i < begChks.length := by
        have := (List.getElem?_eq_some_iff.mp hg).1
        rw [hfl, List.length_map] at this
        exact this
      obtain ⟨y, hy, hmem⟩ := chk_mem hi
      have hmg := hfm i g y hg (by rw [List.getElem?_map, hy]; rfl)
      refine s_when (et_tru (es_new (el_callR rfl ⟨_, hmem, hmg, rfl⟩ (ea_cons (ev_var rfl) (ea_cons (ev_var rfl) ea_nil)) fun H1 e1 => ⟨a, l, p, ns, hA.mono (e2.trans e1), rfl⟩))) (fun hb H3 e4 => ?_) (fun hb H3 e4 => ?_)
      · rw [vL_empty (full_beg _ hmem)] at hb
        have ht : (chkAt begChks i p ns).isSome = true := by rw [← Option.not_isNone]; exact hb
        have h2 := hf ht
        rw [hl5] at h2
        rw [h2] at k
        exact s_ret ev_c fun H5 e5 => k H5 ((e2.trans e4).trans e5)
      · rw [vL_empty (full_beg _ hmem)] at hb
        refine hN ?_ _ _ ⟨_, rfl⟩ (e2.trans e4)
        show (chkAt begChks i p ns).isSome = false
        rw [← Option.not_isNone]; exact hb
    · rintro hno σ' H' ⟨v2, rfl⟩ e
      rw [hl5] at hno
      rw [hno] at k
      exact k H' e
end
end Ps
end

section
set_option maxRecDepth 100000
set_option maxHeartbeats 2000000
namespace Ps
open PySem PySem.Spec PyProof.Rows L2 Evl
open Kp430 (Page Candidate Quota)
section
variable {P : Program} {w : World} {K : PySem.W.Frag} {mg : Str → Option Value} {base : Heap} {CC CP CS : Addr} {σ : L2.St} {H : Hp} {D : Ends}
/-- what a call answers, as a list of numbers -/
abbrev aL (x : Kp430.Ans) : List V := (x.num :: x.nums).map V.int
/-- a question about a page and a list of numbers -/
structure AskedL (K : PySem.W.Frag) (CC CP : Addr) (vs : List V) (H : Hp) (a l : Addr) (p : Page) (ns : List Nat) : Prop where
  vs : vs = [.ref a, .ref l]
  pg : PageAt CC CP H a p
  wf : Wf p
  ls : SqL K H l (ns.map nV)
  few : ns.length ≤ 12
  lst : H l = some (.lst (ns.map nV))
theorem slate_in {p : Page} {s : List Nat} (h : Kp430.isSlate p s = true) : s.length = p.weights.length ∧ (∀ n ∈ s, n < p.candidates.length) ∧ s.Nodup := by
  unfold Kp430.isSlate Kp430.positions at h
  rw [Bool.and_eq_true, Bool.and_eq_true, beq_iff_eq, erase_beq, decide_eq_true_eq, List.all_eq_true] at h
  exact ⟨h.1.1, fun n hn => of_decide_eq_true (h.1.2 n hn), h.2⟩
theorem beg_in {p : Page} {s : List Nat} (h : Kp430.isBeginning p s = true) : s.length ≤ p.weights.length ∧ (∀ n ∈ s, n < p.candidates.length) ∧ s.Nodup := by
  unfold Kp430.isBeginning Kp430.positions at h
  rw [Bool.and_eq_true, Bool.and_eq_true, decide_eq_true_eq, erase_beq, decide_eq_true_eq, List.all_eq_true] at h
  exact ⟨h.1.1, fun n hn => of_decide_eq_true (h.1.2 n hn), h.2⟩
def ansOf (f : Kp430.State × Kp430.Ans) : List V := aL f.2
/-- an error's answer -/
theorem retE {te : TE} {n : Int} {H0 : Hp} (ha : Ev te σ H (.int n)) (e : Ex H0 H) (k : RetL [.int n] H0 D.rt) : tRet (tLst (tCons te tNil)) D σ H :=
  s_retL (el_lst (ea_cons ha ea_nil) (by show 1 ≤ 100000; decide)) fun p H1 hp e1 h => k p H1 (fresh_back e hp) (e.trans e1) h
def rValue (K : PySem.W.Frag) (CC CP : Addr) : List V → Hp → List V → Prop := fun vs H xs => ∃ a l p ns, AskedL K CC CP vs H a l p ns ∧ xs = aL (Kp430.step (some p) (.value ns)).2
theorem ev_isS (T : Txt K mg CC CP CS) {a l : Addr} {p : Page} {ns : List Nat} {L : Lay} (hp : PageL CC CP H a L p) (hS : SqL K H l (ns.map nV)) (h12 : ns.length ≤ 12) {tp tl : TE} (e1 : Ev tp σ H (.ref a)) (e2 : Ev tl σ H (.ref l)) :
    Ev (tMeth CP "is_slate" (spV (rIsS K CC CP)) [] E0 tp (tCons tl tNil)) σ H (.bl (Kp430.isSlate p ns)) :=
  ev_mt e1 hp.ins pF0_no_is_slate (ea_cons e2 ea_nil) fun H1 e => ⟨a, p, l, ns, rfl, ⟨L, hp.mono e⟩, ex_l e hS, by omega, rfl⟩
abbrev s_value : Stmt := topS 87
theorem sc_value : FnScope ["page", "slate"] ["page", "slate"] (defScope s_value) := ⟨rfl, rfl, rfl, by decide +kernel, rfl, by decide +kernel, by decide +kernel⟩
theorem ok_value (T : Txt K mg CC CP CS) (F : FunAt K mg "value" s_value ["page", "slate"]) (D_Page_is_slate : MethAt P w K mg base 3 CP "is_slate" ["self", "listed"] (spV (rIsS K CC CP))) (D_value_of : DefAt P w K mg base 2 "value_of" ["page", "listed"] (spV (rVal K CC CP)))
    (D_relevance_of : DefAt P w K mg base 1 "relevance_of" ["page", "listed"] (spV (rRel K CC CP))) (D_coverage_of : DefAt P w K mg base 1 "coverage_of" ["page", "listed"] (spV (rCov K CC CP))) :
    DefAt P w K mg base 4 "value" ["page", "slate"] (spL (rValue K CC CP)) := by
  obtain ⟨f, fd, FF, hm, hb⟩ := F.ex
  refine ⟨f, fd, FF.ok sc_value (fun vs H Q E h => ?_) (fun cdv A outer s H vs Q E hr h => ⟨_, (pss_cons (ps_if (pt_not (pt_val (pe_mt D_Page_is_slate T.cPage (hr.mono (by decide)) pass0 (pv 0) (pa_cons (pv 1) pa_nil)))) (pss_one (ps_ret (pe_lst (pa_cons (pe_gi T.OUTSIDE_LIMITS) pa_nil)))) pss_nil)
      (pss_one (ps_ret (pe_lst (pa_cons (pe_cd D_value_of (hr.mono (by decide)) pass0 (pa_cons (pv 0) (pa_cons (pv 1) pa_nil))) (pa_cons (pe_cd D_relevance_of (hr.mono (by decide)) pass0 (pa_cons (pv 0) (pa_cons (pv 1) pa_nil))) (pa_cons (pe_cd D_coverage_of (hr.mono (by decide)) pass0 (pa_cons (pv 0) (pa_cons (pv 1) pa_nil))) pa_nil))))))), ?_⟩), hm, FF.kp, hb⟩
  · obtain ⟨z, ⟨_, _, _, _, ⟨rfl, _⟩, _⟩, _⟩ := h
    rfl
  · obtain ⟨z, ⟨a, l, p, ns, ⟨rfl, ⟨L, hp⟩, wf, hS, h12, hl0⟩, rfl⟩, k⟩ := h
    have hst : (Kp430.step (some p) (.value ns)).2 = if Kp430.isSlate p ns then Kp430.natResult (Kp430.value p ns) [Kp430.relevance p ns, (Kp430.covered p ns).length] else Kp430.single (-22) := rfl
    rw [hst] at k
    refine q_when (et_not (et_B (ev_isS T hp hS h12 (ev_var rfl) (ev_var rfl)))) (fun hb H1 e1 => ?_) (fun hb H1 e1 => ?_)
    · rw [Bool.not_eq_true'] at hb
      rw [hb] at k
      exact retE ev_c e1 k
    · rw [Bool.not_eq_false'] at hb
      rw [hb] at k
      obtain ⟨hl, hin, _⟩ := slate_in hb
      have hA : Asked K CC CP [.ref a, .ref l] H1 a l p ns := ⟨rfl, ⟨L, hp.mono e1⟩, wf, ex_l e1 hS, hin, by omega⟩
      exact ret3 (ev_cd (ea_cons (ev_var rfl) (ea_cons (ev_var rfl) ea_nil)) fun H2 e2 => ⟨a, l, p, ns, hA.mono e2, rfl⟩) (ev_cd (ea_cons (ev_var rfl) (ea_cons (ev_var rfl) ea_nil)) fun H2 e2 => ⟨a, l, p, ns, hA.mono e2, rfl⟩)
        (ev_cd (ea_cons (ev_var rfl) (ea_cons (ev_var rfl) ea_nil)) fun H2 e2 => ⟨a, l, p, ns, hA.mono e2, rfl⟩) e1 k
def rViolation (K : PySem.W.Frag) (CC CP : Addr) : List V → Hp → List V → Prop := fun vs H xs => ∃ a l p ns, AskedL K CC CP vs H a l p ns ∧ xs = aL (Kp430.step (some p) (.violation ns)).2
theorem full_violation {p : Page} {s v : List Nat} (h : s.length = p.weights.length) (e : Kp430.violation p s = some v) : v ≠ [] := by
  rw [violation_is h] at e
  obtain ⟨i, hi, e2⟩ := Option.bind_eq_some_iff.mp e
  have hi := (find_map_fst _ _ hi).1
  obtain ⟨y, _, hm⟩ := chk_mem (cs := slateChks) (i := i) hi
  exact full_slate _ hm p s v e2
abbrev s_violation : Stmt := topS 88
theorem sc_violation : FnScope ["page", "slate", "found"] ["page", "slate"] (defScope s_violation) := ⟨rfl, rfl, rfl, by decide +kernel, rfl, by decide +kernel, by decide +kernel⟩
theorem ok_violation (T : Txt K mg CC CP CS) (F : FunAt K mg "violation" s_violation ["page", "slate"]) (D_Page_is_slate : MethAt P w K mg base 3 CP "is_slate" ["self", "listed"] (spV (rIsS K CC CP))) (D_first_violation : DefAt P w K mg base 3 "first_violation" ["page", "slate"] (spL (rFirst K CC CP))) :
    DefAt P w K mg base 4 "violation" ["page", "slate"] (spL (rViolation K CC CP)) := by
  obtain ⟨f, fd, FF, hm, hb⟩ := F.ex
  refine ⟨f, fd, FF.ok sc_violation (fun vs H Q E h => ?_) (fun cdv A outer s H vs Q E hr h => ⟨_, (pss_cons (ps_if (pt_not (pt_val (pe_mt D_Page_is_slate T.cPage (hr.mono (by decide)) pass0 (pv 0) (pa_cons (pv 1) pa_nil)))) (pss_one (ps_ret (pe_lst (pa_cons (pe_gi T.OUTSIDE_LIMITS) pa_nil)))) pss_nil)
      (pss_cons (ps_set (i := 2) sc_violation.nd rfl (Or.inl rfl) (pe_cd D_first_violation (hr.mono (by decide)) pass0 (pa_cons (pv 0) (pa_cons (pv 1) pa_nil))))
      (pss_cons (ps_if (truK (K := K) (pv 2)) (pss_one (ps_ret (pv 2))) pss_nil)
      (pss_one (ps_ret (pe_lst (pa_cons pe_int pa_nil))))))), ?_⟩), hm, FF.kp, hb⟩
  · obtain ⟨z, ⟨_, _, _, _, ⟨rfl, _⟩, _⟩, _⟩ := h
    rfl
  · obtain ⟨z, ⟨a, l, p, ns, ⟨rfl, ⟨L, hp⟩, wf, hS, h12, hl0⟩, rfl⟩, k⟩ := h
    have hst : (Kp430.step (some p) (.violation ns)).2 = if Kp430.isSlate p ns = false then Kp430.single (-22) else match Kp430.violation p ns with
      | none => Kp430.single 0
      | some v => Kp430.natResult (v.headD 0) v.tail := rfl
    rw [hst] at k
    refine q_when (et_not (et_B (ev_isS T hp hS h12 (ev_var rfl) (ev_var rfl)))) (fun hb H1 e1 => ?_) (fun hb H1 e1 => ?_)
    · rw [Bool.not_eq_true'] at hb
      rw [if_pos hb] at k
      exact retE ev_c e1 k
    · rw [Bool.not_eq_false'] at hb
      rw [if_neg (by rw [hb]; decide)] at k
      obtain ⟨hl, hin, _⟩ := slate_in hb
      have hA : Asked K CC CP [.ref a, .ref l] H1 a l p ns := ⟨rfl, ⟨L, hp.mono e1⟩, wf, ex_l e1 hS, hin, by omega⟩
      refine q_asgL (el_cd (ea_cons (ev_var rfl) (ea_cons (ev_var rfl) ea_nil)) fun H2 e2 => ⟨a, l, p, ns, hA.mono e2, hl, rfl⟩) fun d H2 hd e2 h2 => ?_
      cases hv : Kp430.violation p ns with
      | none =>
        rw [hv] at k h2
        refine q_when (et_tru (es_of (ev_var rfl) (sq_of h2))) (fun hb H3 e3 => absurd hb (by decide)) (fun _ H3 e3 => retE ev_c ((e1.trans e2).trans e3) k)
      | some v =>
        rw [hv] at k h2
        have hne := full_violation hl hv
        cases v with
        | nil => exact absurd rfl hne
        | cons x r =>
          refine q_when (et_tru (es_of (ev_var rfl) (sq_of h2))) (fun _ H3 e3 => s_ret (ev_var rfl) fun H4 e4 => ?_) (fun hb H3 e3 => absurd hb (by simp))
          refine k d H4 (fresh_back e1 hd) (((e1.trans e2).trans e3).trans e4) ?_
          rw [(e3.trans e4) _ _ h2]
          show some (HO.lst ((x :: r).map nV)) = some (HO.lst (((x : Int) :: r.map fun n : Nat => (n : Int)).map V.int))
          rw [List.map_cons, List.map_cons, List.map_map]
          rfl
def rGain (K : PySem.W.Frag) (CC CP : Addr) : List V → Hp → List V → Prop := fun vs H xs => ∃ a l p c ns, vs = [.ref a, nV c, .ref l] ∧ AskedL K CC CP [.ref a, .ref l] H a l p ns ∧ xs = aL (Kp430.step (some p) (.gain c ns)).2
theorem ev_hasC (T : Txt K mg CC CP CS) {a : Addr} {p : Page} {c : Nat} {L : Lay} (hp : PageL CC CP H a L p) {tp tc : TE} (e1 : Ev tp σ H (.ref a)) (e2 : Ev tc σ H (nV c)) : Ev (tMeth CP "has_candidate" (spV (rHasC CC CP)) [] E0 tp (tCons tc tNil)) σ H (.bl (Kp430.hasCandidate p c)) :=
  ev_mt e1 hp.ins pF0_no_has_candidate (ea_cons e2 ea_nil) fun H1 e => ⟨a, p, c, rfl, ⟨L, hp.mono e⟩, rfl⟩
theorem ev_hasP (T : Txt K mg CC CP CS) {a : Addr} {p : Page} {c : Nat} {L : Lay} (hp : PageL CC CP H a L p) {tp tc : TE} (e1 : Ev tp σ H (.ref a)) (e2 : Ev tc σ H (nV c)) : Ev (tMeth CP "has_position" (spV (rHasP CC CP)) [] E0 tp (tCons tc tNil)) σ H (.bl (decide (c < p.weights.length))) :=
  ev_mt e1 hp.ins pF0_no_has_position (ea_cons e2 ea_nil) fun H1 e => ⟨a, p, c, rfl, ⟨L, hp.mono e⟩, rfl⟩
theorem ev_isB (T : Txt K mg CC CP CS) {a l : Addr} {p : Page} {ns : List Nat} {L : Lay} (hp : PageL CC CP H a L p) (hS : SqL K H l (ns.map nV)) (h12 : ns.length ≤ 100) {tp tl : TE} (e1 : Ev tp σ H (.ref a)) (e2 : Ev tl σ H (.ref l)) :
    Ev (tMeth CP "is_beginning" (spV (rIsB K CC CP)) [] E0 tp (tCons tl tNil)) σ H (.bl (Kp430.isBeginning p ns)) :=
  ev_mt e1 hp.ins pF0_no_is_beginning (ea_cons e2 ea_nil) fun H1 e => ⟨a, p, l, ns, rfl, ⟨L, hp.mono e⟩, ex_l e hS, by omega, rfl⟩
theorem longer_is (p : Page) (s : List Nat) (c : Nat) (hc : Kp430.hasCandidate p c = true) : Kp430.isBeginning p (s ++ [c]) = false ↔ (Kp430.isBeginning p s = false ∨ s.contains c = true ∨ s.length = Kp430.positions p) := by
  unfold Kp430.isBeginning
  rw [erase_beq, erase_beq, List.all_append, List.length_append]
  have hnd : (s ++ [c]).Nodup ↔ s.Nodup ∧ c ∉ s := by
    rw [List.nodup_append]
    simp only [List.mem_singleton, ne_eq, forall_eq]
    exact ⟨fun h => ⟨h.1, fun m => h.2.2 c m rfl⟩, fun h => ⟨h.1, by simp, fun x hx e => h.2 (e ▸ hx)⟩⟩
  simp only [Bool.and_eq_false_iff, decide_eq_false_iff_not, List.all_cons, List.all_nil, hc, Bool.and_true, hnd, List.contains_eq_mem, decide_eq_true_eq, List.length_singleton]
  by_cases h1 : s.all (Kp430.hasCandidate p) = true
  · by_cases h2 : s.Nodup
    · by_cases h3 : c ∈ s
      · simp [h3]
      · simp [h1, h2, h3]; omega
    · simp [h2]
  · simp [h1]
theorem el_cat {ta tb : TE} {xs ys : List V} {q : Addr} (ha : Ev ta σ H (.ref q)) (hb : EvL tb σ H ys) (h : H q = some (.lst xs)) (hz : xs.length + ys.length ≤ 100000) : EvL (tOp rCat ta tb) σ H (xs ++ ys) := fun H1 e Q k =>
  ha H1 e _ fun H2 e2 => hb H2 (e.trans e2) _ fun b H3 _ e3 hb3 => ⟨q, b, xs, ys, rfl, rfl, ((e.trans e2).trans e3) _ _ h, hb3, sz_of hz, fun d hd => k d _ (fresh_back (e2.trans e3) hd) ((e2.trans e3).trans (Ex.new hd)) upd_same⟩
theorem ev_intB {te : TE} {b : Bool} (h : Ev te σ H (.bl b)) : Ev (tCB (fun xs H Q => (∃ i, xs = [V.int i] ∧ Q (.int i) H) ∨ ∃ k, xs = [V.bl k] ∧ Q (.int (if k then 1 else 0)) H) (tCons te tNil)) σ H (.int (if b then 1 else 0)) := fun H1 e Q q =>
  h H1 e _ fun H2 e2 => .inr ⟨b, rfl, q H2 e2⟩
abbrev s_gain : Stmt := topS 89
theorem sc_gain : FnScope ["page", "candidate", "beginning", "longer", "more_value", "more_topics"] ["page", "candidate", "beginning"] (defScope s_gain) := ⟨rfl, rfl, rfl, by decide +kernel, rfl, by decide +kernel, by decide +kernel⟩
theorem ok_gain (T : Txt K mg CC CP CS) (F : FunAt K mg "gain" s_gain ["page", "candidate", "beginning"]) (D_Page_has_candidate : MethAt P w K mg base 1 CP "has_candidate" ["self", "candidate"] (spV (rHasC CC CP))) (D_Page_is_beginning : MethAt P w K mg base 2 CP "is_beginning" ["self", "listed"] (spV (rIsB K CC CP)))
    (D_value_of : DefAt P w K mg base 2 "value_of" ["page", "listed"] (spV (rVal K CC CP))) (D_coverage_of : DefAt P w K mg base 1 "coverage_of" ["page", "listed"] (spV (rCov K CC CP))) (D_is_possible : DefAt P w K mg base 3 "is_possible" ["page", "beginning"] (spV (rPoss K CC CP))) :
    DefAt P w K mg base 4 "gain" ["page", "candidate", "beginning"] (spL (rGain K CC CP)) := by
  obtain ⟨f, fd, FF, hm, hb⟩ := F.ex
  refine ⟨f, fd, FF.ok sc_gain (fun vs H Q E h => ?_) (fun cdv A outer s H vs Q E hr h => ⟨_, (pss_cons (ps_if (pt_not (pt_val (pe_mt D_Page_has_candidate T.cPage (hr.mono (by decide)) pass0 (pv 0) (pa_cons (pv 1) pa_nil)))) (pss_one (ps_ret (pe_lst (pa_cons (pe_gi T.NO_CANDIDATE) pa_nil)))) pss_nil)
      (pss_cons (ps_set (i := 3) sc_gain.nd rfl (Or.inl rfl) (pe_op op_cat (pv 2) (pe_lst (pa_cons (pv 1) pa_nil))))
      (pss_cons (ps_if (pt_not (pt_val (pe_mt D_Page_is_beginning T.cPage (hr.mono (by decide)) pass0 (pv 0) (pa_cons (pv 3) pa_nil)))) (pss_one (ps_ret (pe_lst (pa_cons (pe_gi T.OUTSIDE_LIMITS) pa_nil)))) pss_nil)
      (pss_cons (ps_set (i := 4) sc_gain.nd rfl (Or.inl rfl) (pe_op op_sub (pe_cd D_value_of (hr.mono (by decide)) pass0 (pa_cons (pv 0) (pa_cons (pv 3) pa_nil))) (pe_cd D_value_of (hr.mono (by decide)) pass0 (pa_cons (pv 0) (pa_cons (pv 2) pa_nil)))))
      (pss_cons (ps_set (i := 5) sc_gain.nd rfl (Or.inl rfl) (pe_op op_sub (pe_cd D_coverage_of (hr.mono (by decide)) pass0 (pa_cons (pv 0) (pa_cons (pv 3) pa_nil))) (pe_cd D_coverage_of (hr.mono (by decide)) pass0 (pa_cons (pv 0) (pa_cons (pv 2) pa_nil)))))
      (pss_one (ps_ret (pe_lst (pa_cons (pv 4) (pa_cons (pv 5) (pa_cons (pe_callTy call_int1 (by rfl) T.int (by decide +kernel) (pa_cons (pe_cd D_is_possible (hr.mono (by decide)) pass0 (pa_cons (pv 0) (pa_cons (pv 3) pa_nil))) pa_nil)) pa_nil))))))))))), ?_⟩), hm, FF.kp, hb⟩
  · obtain ⟨z, ⟨_, _, _, _, _, rfl, _⟩, _⟩ := h
    rfl
  · obtain ⟨z, ⟨a, l, p, c, ns, rfl, ⟨_, ⟨L, hp⟩, wf, hS, h12, hl0⟩, rfl⟩, k⟩ := h
    have hst : (Kp430.step (some p) (.gain c ns)).2 = if Kp430.hasCandidate p c = false then Kp430.single (-2) else if Kp430.isBeginning p ns = false ∨ ns.contains c = true ∨ ns.length = Kp430.positions p then Kp430.single (-22) else
      Kp430.natResult (Kp430.value p (ns ++ [c]) - Kp430.value p ns) [(Kp430.covered p (ns ++ [c])).length - (Kp430.covered p ns).length, if Kp430.isPossible p (ns ++ [c]) then 1 else 0] := rfl
    rw [hst] at k
    refine q_when (et_not (et_B (ev_hasC T hp (ev_var rfl) (ev_var rfl)))) (fun hb H1 e1 => ?_) (fun hb H1 e1 => ?_)
    · rw [Bool.not_eq_true'] at hb
      rw [if_pos hb] at k
      exact retE ev_c e1 k
    · rw [Bool.not_eq_false'] at hb
      rw [if_neg (by rw [hb]; decide)] at k
      refine q_asgL (EvL.is (el_cat (ev_var (by rfl)) (el_lst (ea_cons (ev_var rfl) ea_nil) (by show 1 ≤ 100000; decide)) (e1 _ _ hl0) (by rw [List.length_map]; show ns.length + 1 ≤ 100000; omega)) (show ns.map nV ++ [nV c] = (ns ++ [c]).map nV by rw [List.map_append]; rfl)) fun d H2 hd e2 h2 => ?_
      have E2 := e1.trans e2
      have hlen : (ns ++ [c]).length ≤ 100 := by rw [List.length_append]; show ns.length + 1 ≤ 100; omega
      refine q_when (et_not (et_B (ev_isB T (hp.mono E2) (sq_of h2) hlen (ev_var rfl) (ev_var rfl)))) (fun hb2 H3 e3 => ?_) (fun hb2 H3 e3 => ?_)
      · rw [Bool.not_eq_true', longer_is p ns c hb] at hb2
        rw [if_pos hb2] at k
        exact retE ev_c (E2.trans e3) k
      · rw [Bool.not_eq_false'] at hb2
        have hno : ¬ (Kp430.isBeginning p ns = false ∨ ns.contains c = true ∨ ns.length = Kp430.positions p) := fun q => by
          rw [← longer_is p ns c hb, hb2] at q
          cases q
        rw [if_neg hno] at k
        obtain ⟨hl2, hin2, _⟩ := beg_in hb2
        have E3 := E2.trans e3
        have hA2 : Asked K CC CP [.ref a, .ref d] H3 a d p (ns ++ [c]) := ⟨rfl, ⟨L, hp.mono E3⟩, wf, sq_of (e3 _ _ h2), hin2, hl2⟩
        have hA1 : Asked K CC CP [.ref a, .ref l] H3 a l p ns := ⟨rfl, ⟨L, hp.mono E3⟩, wf, ex_l E3 hS, fun n hn => hin2 n (List.mem_append_left _ hn), by rw [List.length_append] at hl2; omega⟩
        refine q_asg (v := nV (Kp430.value p (ns ++ [c]) - Kp430.value p ns)) (ev_is (ev_op (ev_cd (ea_cons (ev_var rfl) (ea_cons (ev_var rfl) ea_nil)) fun H4 e4 => ⟨a, d, p, _, hA2.mono e4, rfl⟩) (ev_cd (ea_cons (ev_var rfl) (ea_cons (ev_var rfl) ea_nil)) fun H4 e4 => ⟨a, l, p, _, hA1.mono e4, rfl⟩) rv_I0) ?_) fun H4 e4 => ?_
        · have := val_mono p ns [c]
          congr 1
          omega
        refine q_asg (v := nV ((Kp430.covered p (ns ++ [c])).length - (Kp430.covered p ns).length)) (ev_is (ev_op (ev_cd (ea_cons (ev_var rfl) (ea_cons (ev_var rfl) ea_nil)) fun H5 e5 => ⟨a, d, p, _, (hA2.mono (e4.trans e5)).to9, rfl⟩) (ev_cd (ea_cons (ev_var rfl) (ea_cons (ev_var rfl) ea_nil)) fun H5 e5 => ⟨a, l, p, _, (hA1.mono (e4.trans e5)).to9, rfl⟩) rv_I0) ?_) fun H5 e5 => ?_
        · have := cov_mono p ns [c]
          congr 1
          omega
        refine ret3 (z := if Kp430.isPossible p (ns ++ [c]) then 1 else 0) (ev_var rfl) (ev_var rfl) (ev_is (ev_intB (ev_cd (z := .bl (Kp430.isPossible p (ns ++ [c]))) (ea_cons (ev_var rfl) (ea_cons (ev_var rfl) ea_nil)) fun H6 e6 => ⟨a, d, p, _, hA2.mono ((e4.trans e5).trans e6), rfl⟩)) ?_) ((E3.trans e4).trans e5) k
        split <;> rfl
end
end Ps
end

section
set_option maxRecDepth 100000
set_option maxHeartbeats 2000000
namespace Ps
open PySem PySem.Spec PyProof.Rows L2 Evl
open Kp430 (Page Candidate Quota)
section
variable {P : Program} {w : World} {K : PySem.W.Frag} {mg : Str → Option Value} {base : Heap} {CC CP CS : Addr} {σ : L2.St} {H Hs : Hp} {D : Ends} {a : Addr} {L : Lay} {p : Page} {tp tv te : TE}
/-- o.f = v -/
theorem s_fld {x C dx : Addr} {fs : List (Str × V)} {f : Str} {v : V} (hv : Ev tv σ H v) (ho : Ev tp σ H (.ref x)) (hx : H x = some (.ins C dx fs)) (hc : Cls K C) (hn : NoAttr K C f) (hl : fs.length < 1000) (k : ∀ H1, Ex H H1 → D.nx σ (upd H1 x (.ins C dx (putF f v fs)))) : sFld K tp tv f D σ H :=
  hv H (Ex.refl H) _ fun H1 e1 => ho H1 e1 _ fun H2 e2 => ⟨x, C, dx, fs, rfl, (e1.trans e2) _ _ hx, hc, hn, hl, k H2 (e1.trans e2)⟩
theorem s_fldL {x C dx : Addr} {fs : List (Str × V)} {f : Str} {xs : List V} (hv : EvL tv σ H xs) (ho : ∀ H1, Ex H H1 → Ev tp σ H1 (.ref x)) (hx : H x = some (.ins C dx fs)) (hc : Cls K C) (hn : NoAttr K C f) (hl : fs.length < 1000)
    (k : ∀ q H1, H q = none → Ex H H1 → H1 q = some (.lst xs) → D.nx σ (upd H1 x (.ins C dx (putF f (.ref q) fs)))) : sFld K tp tv f D σ H :=
  hv H (Ex.refl H) _ fun q H1 hq e1 h1 => ho H1 e1 H1 (Ex.refl H1) _ fun H2 e2 => ⟨x, C, dx, fs, rfl, (e1.trans e2) _ _ hx, hc, hn, hl, k q H2 hq (e1.trans e2) (e2 _ _ h1)⟩
theorem q_fld {tz : TS} {x C dx : Addr} {fs : List (Str × V)} {f : Str} {v : V} (hv : Ev tv σ H v) (ho : Ev tp σ H (.ref x)) (hx : H x = some (.ins C dx fs)) (hc : Cls K C) (hn : NoAttr K C f) (hl : fs.length < 1000) (k : ∀ H1, Ex H H1 → tz D σ (upd H1 x (.ins C dx (putF f v fs)))) : tSeq (sFld K tp tv f) tz D σ H := s_fld (D := { D with nx := tz D }) hv ho hx hc hn hl k
theorem q_fldL {tz : TS} {x C dx : Addr} {fs : List (Str × V)} {f : Str} {xs : List V} (hv : EvL tv σ H xs) (ho : ∀ H1, Ex H H1 → Ev tp σ H1 (.ref x)) (hx : H x = some (.ins C dx fs)) (hc : Cls K C) (hn : NoAttr K C f) (hl : fs.length < 1000)
    (k : ∀ q H1, H q = none → Ex H H1 → H1 q = some (.lst xs) → tz D σ (upd H1 x (.ins C dx (putF f (.ref q) fs)))) : tSeq (sFld K tp tv f) tz D σ H := s_fldL (D := { D with nx := tz D }) hv ho hx hc hn hl k
/-- all but x stands -/
def But (x : Addr) (H H' : Hp) : Prop := ∀ b o, H b = some o → b ≠ x → H' b = some o
theorem But.of {x : Addr} {H H' : Hp} (e : Ex H H') : But x H H' := fun b o h _ => e b o h
theorem But.upd {x : Addr} {H H' : Hp} {o : HO} (e : But x H H') : But x H (upd H' x o) := fun b u h n => by rw [upd_ne n]; exact e b u h n
theorem But.trans {x : Addr} {H H1 H2 : Hp} (a : But x H H1) (b : But x H1 H2) : But x H H2 := fun c o h n => b c o (a c o h n) n
/-! ### Candidate.__init__ -/
def spCInit (CC : Addr) : Sp := fun vs H Q _ => ∃ x dx s g k a t, vs = [.ref x, nV s, nV g, nV k, nV a, .ref t] ∧ H x = some (.ins CC dx []) ∧ ∀ H', H' x = some (.ins CC dx (cF0 s g k a t)) → But x H H' → Q .non H'
theorem put_nil {f : Str} {v : V} : putF f v [] = [(f, v)] := rfl
theorem cF0_new (s g k a : Nat) (t : Addr) : putF "topics" (.ref t) (putF "age" (nV a) (putF "creator" (nV k) (putF "group" (nV g) (putF "score" (nV s) [])))) = cF0 s g k a t := by
  unfold cF0
  rw [put_nil]
  repeat rw [pt_past (by decide +kernel)]
  rfl
theorem putF_len (f : Str) (v : V) : ∀ fs : List (Str × V), (putF f v fs).length ≤ fs.length + 1
  | [] => by show 1 ≤ 1; decide
  | (g, x) :: r => by
    by_cases e : g = f
    · subst e
      rw [pt_here]; simp
    · rw [pt_past e]
      have := putF_len f v r
      simp only [List.length_cons]
      omega
theorem smp {f : Str} {v : V} {fs : List (Str × V)} {n : Nat} (h : fs.length ≤ n) : (putF f v fs).length ≤ n + 1 := Nat.le_trans (putF_len f v fs) (Nat.succ_le_succ h)
theorem sm0 : ([] : List (Str × V)).length ≤ 0 := Nat.le_refl 0
theorem sml {fs : List (Str × V)} {n : Nat} (h : fs.length ≤ n) (hn : n < 1000 := by decide) : fs.length < 1000 := Nat.lt_of_le_of_lt h hn
abbrev s_Candidate___init__ : Stmt := inClass (topS 96) 0
theorem sc_Candidate___init__ : FnScope ["self", "score", "group", "creator", "age", "topics"] ["self", "score", "group", "creator", "age", "topics"] (defScope s_Candidate___init__) := ⟨rfl, rfl, rfl, by decide +kernel, rfl, by decide +kernel, by decide +kernel⟩
theorem ok_Candidate_init (T : Txt K mg CC CP CS) (F : IFunAt K CC "Candidate.__init__" s_Candidate___init__ ["self", "score", "group", "creator", "age", "topics"]) : MakeAt P w K mg base 1 CC ["self", "score", "group", "creator", "age", "topics"] (spCInit CC) := by
  obtain ⟨f, fd, FF, hm, hb⟩ := F.ex
  refine ⟨f, fd, FF.ok sc_Candidate___init__ (fun vs H Q E h => ?_) (fun cdv A outer s H vs Q E hr h => ⟨_, (pss_cons (sfldK (K := K) (pv 0) (pv 1))
      (pss_cons (sfldK (K := K) (pv 0) (pv 2))
      (pss_cons (sfldK (K := K) (pv 0) (pv 3))
      (pss_cons (sfldK (K := K) (pv 0) (pv 4))
      (pss_one (sfldK (K := K) (pv 0) (pv 5))))))), ?_⟩), hm, hb⟩
  · obtain ⟨_, _, _, _, _, _, _, rfl, _⟩ := h
    rfl
  · obtain ⟨x, dx, s, g, k, a, t, rfl, hx, q⟩ := h
    refine (q_fld (ev_var rfl) (ev_var rfl) hx T.cCandidate T.nC_score (sml sm0) fun H1 e1 => ?_)
    refine (q_fld (ev_var rfl) (ev_var rfl) upd_same T.cCandidate T.nC_group (sml (smp sm0)) fun H2 e2 => ?_)
    refine (q_fld (ev_var rfl) (ev_var rfl) upd_same T.cCandidate T.nC_creator (sml (smp (smp sm0))) fun H3 e3 => ?_)
    refine (q_fld (ev_var rfl) (ev_var rfl) upd_same T.cCandidate T.nC_age (sml (smp (smp (smp sm0)))) fun H4 e4 => ?_)
    refine s_fld (ev_var rfl) (ev_var rfl) upd_same T.cCandidate T.nC_topics (sml (smp (smp (smp (smp sm0))))) fun H5 e5 => ?_
    refine q _ ?_ ?_
    · rw [cF0_new]
      exact upd_same
    · exact (((((But.of e1).upd.trans (But.of e2)).upd.trans (But.of e3)).upd.trans (But.of e4)).upd.trans (But.of e5)).upd
/-! ### Page.__init__ -/
/-- [tuple for j in range(n)]: as many new tuples -/
def EvQ (te : TE) (σ : L2.St) (H : Hp) (n : Nat) (xs : List V) : Prop := ∀ H1, Ex H H1 → ∀ Q : VK, (∀ (d : Addr) (qs : List Addr) H2, H1 d = none → Ex H1 H2 → H2 d = some (.lst (qs.map V.ref)) → qs.length = n → (∀ q ∈ qs, H2 q = some (.tup xs)) → Q (.ref d) H2) → te σ H1 Q
theorem eq_lcR {j : Nat} {vs : List Nat} {n : Nat} {tr : TE} {xs : List V} (h : Ev tr σ H (.int (n : Int))) (hn : n ≤ 40000) (hw : ∀ x, wipe ((wipe σ vs).set j (some x)) vs = wipe σ vs)
    (he : ∀ (i : Nat) H1, Ex H H1 → i < n → EvU te ((wipe σ vs).set j (some (nV i))) H1 xs) : EvQ (tLc (iRng1 (tCons tr tNil)) (gName j) tYes te vs) σ H n xs := fun H0 e Q q => h H0 e _ fun H1 e1 =>
  ⟨(n : Int), rfl, by omega, by omega, fun d hd => lc_it (n := n) walk_r1 (fun i H' => Ex H1 H' ∧ ∃ qs : List Addr, H' d = some (.lst (qs.map V.ref)) ∧ qs.length = i ∧ ∀ q ∈ qs, H' q = some (.tup xs)) ⟨Ex.new hd, [], upd_same, rfl, fun _ h => nomatch h⟩ (fun _ _ _ _ => trivial)
    (fun i x H2 H3 hi p y => by
      obtain ⟨rfl, rfl⟩ := y
      obtain ⟨e2, qs, h1, h2, h3⟩ := p
      have e0 : V.int ((0 : Int) + (i : Int)) = nV i := by rw [Int.zero_add]
      show wipe ((wipe σ vs).set j (some (V.int ((0 : Int) + (i : Int))))) vs = wipe σ vs ∧ te ((wipe σ vs).set j (some (V.int ((0 : Int) + (i : Int))))) H3 _
      rw [e0]
      refine ⟨hw _, he i H3 ((e.trans e1).trans e2) hi H3 (Ex.refl _) _ fun t H4 ht e4 h4 => ⟨_, e4 _ _ h1, sz_lt (by rw [List.length_map]; omega), Ex.mut (e2.trans e4) hd, qs ++ [t], ?_, ?_, ?_⟩⟩
      · rw [upd_same, List.map_append]; rfl
      · rw [List.length_append, h2]; rfl
      · intro q hq
        have hqd : H4 q = some (.tup xs) := by
          rcases List.mem_append.mp hq with hq | hq
          · exact e4 _ _ (h3 q hq)
          · rw [List.mem_singleton] at hq
            rw [hq]; exact h4
        rw [upd_ne (ne_of hqd (e4 _ _ h1) (by intro z; cases z))]
        exact hqd)
    (fun H2 p => by
      obtain ⟨e2, qs, h1, h2, h3⟩ := p
      exact q d qs H2 (fresh_back e1 hd) (e1.trans e2) h1 h2 h3)⟩
theorem s_fldQ {x C dx : Addr} {fs : List (Str × V)} {f : Str} {n : Nat} {xs : List V} (hv : EvQ tv σ H n xs) (ho : ∀ H1, Ex H H1 → Ev tp σ H1 (.ref x)) (hx : H x = some (.ins C dx fs)) (hc : Cls K C) (hn : NoAttr K C f) (hl : fs.length < 1000)
    (k : ∀ (d : Addr) (qs : List Addr) H1, H d = none → Ex H H1 → H1 d = some (.lst (qs.map V.ref)) → qs.length = n → (∀ q ∈ qs, H1 q = some (.tup xs)) → D.nx σ (upd H1 x (.ins C dx (putF f (.ref d) fs)))) : sFld K tp tv f D σ H :=
  hv H (Ex.refl H) _ fun d qs H1 hd e1 h1 h2 h3 => ho H1 e1 H1 (Ex.refl H1) _ fun H2 e2 => ⟨x, C, dx, fs, rfl, (e1.trans e2) _ _ hx, hc, hn, hl, k d qs H2 hd (e1.trans e2) (e2 _ _ h1) h2 fun q hq => e2 _ _ (h3 q hq)⟩
theorem q_fldQ {tz : TS} {x C dx : Addr} {fs : List (Str × V)} {f : Str} {n : Nat} {xs : List V} (hv : EvQ tv σ H n xs) (ho : ∀ H1, Ex H H1 → Ev tp σ H1 (.ref x)) (hx : H x = some (.ins C dx fs)) (hc : Cls K C) (hn : NoAttr K C f) (hl : fs.length < 1000)
    (k : ∀ (d : Addr) (qs : List Addr) H1, H d = none → Ex H H1 → H1 d = some (.lst (qs.map V.ref)) → qs.length = n → (∀ q ∈ qs, H1 q = some (.tup xs)) → tz D σ (upd H1 x (.ins C dx (putF f (.ref d) fs)))) : tSeq (sFld K tp tv f) tz D σ H := s_fldQ (D := { D with nx := tz D }) hv ho hx hc hn hl k
def page0 (l : List Nat) : Page := ⟨l, [], List.replicate Kp430.groupCount ⟨0, Kp430.maxPositions⟩, Kp430.maxPositions, 1, 0, 0, 0, [], List.replicate l.length none⟩
def spPInit (CC CP : Addr) : Sp := fun vs H Q _ => ∃ x dx w ns, vs = [.ref x, .ref w] ∧ H x = some (.ins CP dx []) ∧ H w = some (.lst (ns.map nV)) ∧ ns.length ≤ 12 ∧
  ∀ H' L, PageL CC CP H' x L (page0 ns) → L.aw = w → L.cs = [] → (∀ b ∈ [L.ac, L.aq, L.af, L.ap], H b = none) → [L.ac, L.aq, L.af, L.ap].Nodup → But x H H' → Q .non H'
theorem pF0_new (w c q : Addr) (lm sp fa fl dv : Nat) (f n : Addr) : putF "pins" (.ref n) (putF "forbidden" (.ref f) (putF "diversity" (nV dv) (putF "fresh_least" (nV fl) (putF "fresh_age" (nV fa) (putF "spacing" (nV sp) (putF "limit" (nV lm) (putF "quotas" (.ref q) (putF "candidates" (.ref c) (putF "weights" (.ref w) []))))))))) =
    pF0 w c q lm sp fa fl dv f n := by
  unfold pF0
  rw [put_nil]
  repeat rw [pt_past (by decide +kernel)]
  rfl
theorem but_step {x : Addr} {o : HO} {H H' : Hp} (e : Ex (upd H x o) H') : But x H H' := fun b u h n => e b u (by rw [upd_ne n]; exact h)
theorem upd_none {x q : Addr} {o : HO} {H : Hp} (h : upd H x o q = none) : q ≠ x ∧ H q = none := by
  have n : q ≠ x := fun e => by rw [e, upd_same] at h; cases h
  rw [upd_ne n] at h
  exact ⟨n, h⟩
theorem but_none {x q : Addr} {H G : Hp} (b : But x H G) (h : G q = none) (n : q ≠ x) : H q = none := by
  cases e : H q with
  | none => rfl
  | some u => rw [b q u e n] at h; cases h
abbrev s_Page___init__ : Stmt := inClass (topS 97) 0
theorem sc_Page___init__ : FnScope ["self", "weights", "group", "weight"] ["self", "weights"] (defScope s_Page___init__) := ⟨rfl, rfl, rfl, by decide +kernel, rfl, by decide +kernel, by decide +kernel⟩
theorem ok_Page_init (T : Txt K mg CC CP CS) (F : IFunAt K CP "Page.__init__" s_Page___init__ ["self", "weights"]) : MakeAt P w K mg base 1 CP ["self", "weights"] (spPInit CC CP) := by
  obtain ⟨f, fd, FF, hm, hb⟩ := F.ex
  refine ⟨f, fd, FF.ok sc_Page___init__ (fun vs H Q E h => ?_) (fun cdv A outer s H vs Q E hr h => ⟨_, (pss_cons (sfldK (K := K) (pv 0) (pv 1))
      (pss_cons (sfldK (K := K) (pv 0) (pe_lst pa_nil))
      (pss_cons (sfldK (K := K) (pv 0) (pe_lc (own := [("group", 2)]) rfl sc_Page___init__.nd (pi_range1 (by rfl) T.range (pa_cons (pe_gi T.GROUP_COUNT) pa_nil)) (blkOk_by (own := [("group", 2)]) (N := ["self", "weights", "group", "weight"]) (sc := defScope s_Page___init__) (by decide +kernel)) (fun _ _ _ _ _ => pg_name (i := 2) sc_Page___init__.nd rfl (Or.inl rfl)) (fun _ _ _ _ _ => pts_nil) (fun _ _ _ _ _ => (pe_tup (pa_cons pe_int (pa_cons (pe_gi T.GREATEST_QUOTA) pa_nil))))))
      (pss_cons (sfldK (K := K) (pv 0) (pe_gi T.GREATEST_LIMIT))
      (pss_cons (sfldK (K := K) (pv 0) pe_int)
      (pss_cons (sfldK (K := K) (pv 0) pe_int)
      (pss_cons (sfldK (K := K) (pv 0) pe_int)
      (pss_cons (sfldK (K := K) (pv 0) pe_int)
      (pss_cons (sfldK (K := K) (pv 0) (pe_lst pa_nil))
      (pss_one (sfldK (K := K) (pv 0) (pe_lc (own := [("weight", 3)]) rfl sc_Page___init__.nd (wList (K := K) (pv 1)) (blkOk_by (own := [("weight", 3)]) (N := ["self", "weights", "group", "weight"]) (sc := defScope s_Page___init__) (by decide +kernel)) (fun _ _ _ _ _ => pg_name (i := 3) sc_Page___init__.nd rfl (Or.inl rfl)) (fun _ _ _ _ _ => pts_nil) (fun _ _ _ _ _ => pe_non))))))))))))), ?_⟩), hm, hb⟩
  · obtain ⟨_, _, _, _, rfl, _⟩ := h
    rfl
  · obtain ⟨x, dx, w, ns, rfl, hx, hw, h12, q⟩ := h
    refine (q_fld (ev_var rfl) (ev_var rfl) hx T.cPage T.nP_weights (sml sm0) fun H1 e1 => ?_)
    refine (q_fldL (el_lst ea_nil (by show 0 ≤ 100000; decide)) (fun _ _ => ev_var rfl) upd_same T.cPage T.nP_candidates (sml (smp sm0)) fun c H2 hc e2 h2 => ?_)
    refine (q_fldQ (eq_lcR (n := 6) ev_c (by decide) (by intro _; rfl) fun i H3 e3 hi => eu_tup (ea_cons ev_c (ea_cons ev_c ea_nil)) (by show 2 ≤ 100000; decide)) (fun _ _ => ev_var rfl) upd_same T.cPage T.nP_quotas (sml (smp (smp sm0))) fun d qs H3 hd e3 h3 hql hqs => ?_)
    refine (q_fld ev_c (ev_var rfl) upd_same T.cPage T.nP_limit (sml (smp (smp (smp sm0)))) fun H4 e4 => ?_)
    refine (q_fld ev_c (ev_var rfl) upd_same T.cPage T.nP_spacing (sml (smp (smp (smp (smp sm0))))) fun H5 e5 => ?_)
    refine (q_fld ev_c (ev_var rfl) upd_same T.cPage T.nP_fresh_age (sml (smp (smp (smp (smp (smp sm0)))))) fun H6 e6 => ?_)
    refine (q_fld ev_c (ev_var rfl) upd_same T.cPage T.nP_fresh_least (sml (smp (smp (smp (smp (smp (smp sm0))))))) fun H7 e7 => ?_)
    refine (q_fld ev_c (ev_var rfl) upd_same T.cPage T.nP_diversity (sml (smp (smp (smp (smp (smp (smp (smp sm0)))))))) fun H8 e8 => ?_)
    refine (q_fldL (el_lst ea_nil (by show 0 ≤ 100000; decide)) (fun _ _ => ev_var rfl) upd_same T.cPage T.nP_forbidden (sml (smp (smp (smp (smp (smp (smp (smp (smp sm0))))))))) fun fb H9 hf e9 h9 => ?_)
    have b1 := But.of (x := x) e1
    have b2 := b1.trans (but_step e2)
    have b3 := but_step e3
    have b8 := ((((but_step e4).trans (but_step e5)).trans (but_step e6)).trans (but_step e7)).trans (but_step e8)
    have b9 := but_step e9
    have hwx : w ≠ x := ne_of hw hx (by intro z; cases z)
    have w9 : H9 w = some (.lst (ns.map nV)) := ((b2.trans b3).trans (b8.trans b9)) _ _ hw hwx
    refine s_fldL (el_lcM (l := ns) (r := nV) (g := fun _ => V.non) (es_of (ev_var (by rfl)) (sq_of (by rw [upd_ne hwx]; exact w9))) (by omega) (by intro _; rfl) fun n H' e' _ => ev_c)
      (fun _ _ => ev_var rfl) upd_same T.cPage T.nP_pins (sml (smp (smp (smp (smp (smp (smp (smp (smp (smp sm0)))))))))) fun pn H10 hp e10 h10 => ?_
    have b10 := but_step e10
    have cx := upd_none hc
    have qx := upd_none hd
    have fx := upd_none hf
    have px := upd_none hp
    have c10 := (b3.trans (b8.trans (b9.trans b10))) _ _ h2 cx.1
    have d10 := (b8.trans (b9.trans b10)) _ _ h3 qx.1
    have f10 := b10 _ _ h9 fx.1
    have q10 : ∀ q ∈ qs, H10 q = some (.tup [.int 0, .int 5]) := fun q hq => (b8.trans (b9.trans b10)) _ _ (hqs q hq) (fun e => by
      have := e3 x _ upd_same
      rw [← e, hqs q hq] at this
      cases this)
    have all : But x H H10 := b2.trans (b3.trans (b8.trans (b9.trans b10)))
    refine q _ ⟨dx, w, c, d, fb, pn, [], qs, []⟩ ?_ rfl rfl ?_ ?_ all.upd
    · have nq : ∀ q ∈ qs, q ≠ x := fun q hq e => by
        have := e3 x _ upd_same
        rw [← e, hqs q hq] at this
        cases this
      refine ⟨?_, ?_, ?_, rfl, fun i c k h => by simp at h, ?_, ?_, fun i q k h1 h2 => ?_, ?_, rfl, fun i q k h => by simp at h, ?_⟩
      · rw [upd_same]
        exact congrArg (fun z => some (HO.ins CP dx z)) (pF0_new w c d 5 1 0 0 0 fb pn)
      · rw [upd_ne hwx]; exact b10 _ _ w9 hwx
      · rw [upd_ne cx.1]; exact c10
      · rw [upd_ne qx.1]; exact d10
      · rw [hql]; rfl
      · have hm := List.mem_of_getElem? h1
        rw [upd_ne (nq q hm), q10 q hm]
        have e := List.eq_of_mem_replicate (List.mem_of_getElem? h2)
        rw [e]; rfl
      · rw [upd_ne fx.1]; exact f10
      · rw [upd_ne px.1, h10]
        show some (HO.lst (ns.map fun _ => V.non)) = some (HO.lst ((List.replicate ns.length (none : Option Nat)).map oV))
        rw [List.map_replicate, List.map_const']
    · intro b hb
      simp only [List.mem_cons, List.not_mem_nil, or_false] at hb
      have g1 := But.of (x := x) e1
      rcases hb with rfl | rfl | rfl | rfl
      · exact but_none b1 cx.2 cx.1
      · exact but_none b2 qx.2 qx.1
      · exact but_none (b2.trans (b3.trans b8)) fx.2 fx.1
      · exact but_none (b2.trans (b3.trans (b8.trans b9))) px.2 px.1
    · have n1 : c ≠ d := fun e => by rw [e, qx.2] at h2; cases h2
      have n2 : c ≠ fb := fun e => by
        have := (b3.trans b8) _ _ h2 cx.1
        rw [e, fx.2] at this; cases this
      have n3 : c ≠ pn := fun e => by
        have := (b3.trans (b8.trans b9)) _ _ h2 cx.1
        rw [e, px.2] at this; cases this
      have n4 : d ≠ fb := fun e => by
        have := b8 _ _ h3 qx.1
        rw [e, fx.2] at this; cases this
      have n5 : d ≠ pn := fun e => by
        have := (b8.trans b9) _ _ h3 qx.1
        rw [e, px.2] at this; cases this
      have n6 : fb ≠ pn := fun e => by rw [e, px.2] at h9; cases h9
      simp [n1, n2, n3, n4, n5, n6]
end
end Ps
end

section
set_option maxRecDepth 100000
set_option maxHeartbeats 2000000
namespace Ps
open PySem PySem.Spec PyProof.Rows L2 Evl
open Kp430 (Page Candidate Quota)
/-! What a store leaves of a page. -/
theorem map_erase {α β : Type} (f : α → β) : ∀ (l : List α) (j : Nat), (l.map f).eraseIdx j = (l.eraseIdx j).map f
  | [], _ => rfl
  | _ :: _, 0 => rfl
  | a :: l, j + 1 => congrArg (f a :: ·) (map_erase f l j)
section
variable {CC CP : Addr} {Hs H : Hp} {a : Addr} {L : Lay} {p : Page}
theorem ins_ne {CC CP dx dy : Addr} {s g k c : Nat} {t : Addr} {w x q f n : Addr} {lm sp fa fl dv : Nat} : HO.ins CC dx (cF0 s g k c t) ≠ HO.ins CP dy (pF0 w x q lm sp fa fl dv f n) := fun z => by
  injection z with _ _ z3
  exact absurd (congrArg List.length z3) (by show ¬ (5 : Nat) = 10; decide)
/-- a's own fields are changed -/
theorem pl_fieldsL (h : PageL CC CP H a L p) (A : Apart Hs H a L p) {p' : Page} (hw : p'.weights = p.weights) (hc : p'.candidates = p.candidates) (hq : p'.quotas = p.quotas) (hf : p'.forbidden = p.forbidden) (hp : p'.pins = p.pins) :
    PageL CC CP (upd H a (.ins CP L.dx (pF L p'))) a L p' ∧ Apart Hs (upd H a (.ins CP L.dx (pF L p'))) a L p' := by
  have nl : ∀ {b : Addr} {xs : List V}, H b = some (.lst xs) → b ≠ a := fun e => ne_of e h.ins (by intro z; cases z)
  have nt : ∀ {b : Addr} {xs : List V}, H b = some (.tup xs) → b ≠ a := fun e => ne_of e h.ins (by intro z; cases z)
  refine ⟨⟨upd_same, ?_, ?_, ?_, ?_, ?_, ?_, ?_, ?_, ?_, ?_, ?_⟩, ⟨Ex.mut A.ex A.na, ?_, ?_, A.na, A.nl, A.nc, A.nd, A.cd⟩⟩
  · rw [upd_ne (nl h.hw), hw]; exact h.hw
  · rw [upd_ne (nl h.hc)]; exact h.hc
  · rw [hc]; exact h.hcl
  · intro i c k h1 h2
    rw [hc] at h2
    have q := h.hca i c k h1 h2
    exact ⟨by rw [upd_ne (ne_of q.ins h.ins ins_ne)]; exact q.ins, by rw [upd_ne (nl q.tps)]; exact q.tps⟩
  · rw [upd_ne (nl h.hq)]; exact h.hq
  · rw [hq]; exact h.hql
  · intro i q k h1 h2
    rw [hq] at h2
    have e := h.hqa i q k h1 h2
    rw [upd_ne (nt e)]; exact e
  · rw [upd_ne (nl h.hf)]; exact h.hf
  · rw [hf]; exact h.hfl
  · intro i q k h1 h2
    rw [hf] at h2
    have e := h.hfa i q k h1 h2
    rw [upd_ne (nt e)]; exact e
  · rw [upd_ne (nl h.hp), hp]; exact h.hp
  · rw [hw]; exact A.hw
  · intro i c k h1 h2
    rw [hc] at h2
    exact A.ht i c k h1 h2
theorem pl_fields (h : PageL CC CP H a L p) (A : Apart Hs H a L p) {p' : Page} (hw : p'.weights = p.weights) (hc : p'.candidates = p.candidates) (hq : p'.quotas = p.quotas) (hf : p'.forbidden = p.forbidden) (hp : p'.pins = p.pins) :
    PageIn CC CP Hs (upd H a (.ins CP L.dx (pF L p'))) a p' := ⟨L, pl_fieldsL h A hw hc hq hf hp⟩
/-- a private list is changed: what stands elsewhere -/
theorem pl_else (h : PageL CC CP H a L p) (A : Apart Hs H a L p) {x : Addr} (hx : x ∈ [L.ac, L.aq, L.af, L.ap]) {xs ys : List V} (hl : H x = some (.lst xs)) :
    (upd H x (.lst ys)) a = some (.ins CP L.dx (pF L p)) ∧ (upd H x (.lst ys)) L.aw = some (.lst (p.weights.map nV)) ∧ (∀ (i : Nat) (c : CL) (k : Candidate), L.cs[i]? = some c → p.candidates[i]? = some k → CandAt CC (upd H x (.lst ys)) c k) ∧
      (∀ q t, H q = some (.tup t) → (upd H x (.lst ys)) q = some (.tup t)) ∧ Ex Hs (upd H x (.lst ys)) := by
  have nx := A.nl x hx
  refine ⟨?_, ?_, fun i c k h1 h2 => ?_, fun q t e => ?_, Ex.mut A.ex nx⟩
  · rw [upd_ne (ne_of h.ins hl (by intro z; cases z))]; exact h.ins
  · rw [upd_ne (ne_of_none (src_ex _ _ A.hw) nx)]; exact h.hw
  · have q := h.hca i c k h1 h2
    exact ⟨by rw [upd_ne (ne_of q.ins hl (by intro z; cases z))]; exact q.ins, by rw [upd_ne (ne_of_none (src_ex _ _ (A.ht i c k h1 h2)) nx)]; exact q.tps⟩
  · rw [upd_ne (ne_of e hl (by intro z; cases z))]; exact e
theorem nd4 {a b c d : Addr} (h : [a, b, c, d].Nodup) : a ≠ b ∧ a ≠ c ∧ a ≠ d ∧ b ≠ c ∧ b ≠ d ∧ c ≠ d := by
  simp only [List.nodup_cons, List.mem_cons, List.not_mem_nil, not_or, or_false] at h
  exact ⟨h.1.1, h.1.2.1, h.1.2.2, h.2.1.1, h.2.1.2, h.2.2.1⟩
theorem pl_pins (h : PageL CC CP H a L p) (A : Apart Hs H a L p) (ns : List (Option Nat)) : PageIn CC CP Hs (upd H L.ap (.lst (ns.map oV))) a { p with pins := ns } := by
  obtain ⟨e1, e2, e3, e4, e5⟩ := pl_else (ys := ns.map oV) h A (x := L.ap) (by simp) h.hp
  obtain ⟨_, _, n1, _, n2, n3⟩ := nd4 A.nd
  refine ⟨L, ⟨e1, e2, ?_, h.hcl, e3, ?_, h.hql, fun i q k h1 h2 => e4 _ _ (h.hqa i q k h1 h2), ?_, h.hfl, fun i q k h1 h2 => e4 _ _ (h.hfa i q k h1 h2), upd_same⟩, ⟨e5, A.hw, A.ht, A.na, A.nl, A.nc, A.nd, A.cd⟩⟩
  · rw [upd_ne n1]; exact h.hc
  · rw [upd_ne n2]; exact h.hq
  · rw [upd_ne n3]; exact h.hf
theorem pl_quota (h : PageL CC CP H a L p) (A : Apart Hs H a L p) {g : Nat} {q : Addr} {k : Quota} (hq : H q = some (.tup [nV k.lower, nV k.upper])) : PageIn CC CP Hs (upd H L.aq (.lst ((L.qs.map V.ref).set g (.ref q)))) a { p with quotas := p.quotas.set g k } := by
  obtain ⟨e1, e2, e3, e4, e5⟩ := pl_else (ys := (L.qs.map V.ref).set g (.ref q)) h A (x := L.aq) (by simp) h.hq
  obtain ⟨n0, _, _, n1, n2, _⟩ := nd4 A.nd
  refine ⟨{ L with qs := L.qs.set g q }, ⟨e1, e2, ?_, h.hcl, e3, ?_, ?_, fun i q' k' h1 h2 => ?_, ?_, h.hfl, fun i q k h1 h2 => e4 _ _ (h.hfa i q k h1 h2), ?_⟩, ⟨e5, A.hw, A.ht, A.na, A.nl, A.nc, A.nd, A.cd⟩⟩
  · rw [upd_ne n0]; exact h.hc
  · show upd H L.aq _ L.aq = some (.lst ((L.qs.set g q).map V.ref))
    rw [upd_same, List.map_set]
  · show (L.qs.set g q).length = (p.quotas.set g k).length
    rw [List.length_set, List.length_set]; exact h.hql
  · have h1 : (L.qs.set g q)[i]? = some q' := h1
    have h2 : (p.quotas.set g k)[i]? = some k' := h2
    by_cases e : g = i
    · subst e
      have hl := (List.getElem?_eq_some_iff.mp h1).1
      have hl2 := (List.getElem?_eq_some_iff.mp h2).1
      rw [List.length_set] at hl hl2
      rw [List.getElem?_set_self hl] at h1
      rw [List.getElem?_set_self hl2] at h2
      cases h1
      cases h2
      exact e4 _ _ hq
    · rw [List.getElem?_set_ne e] at h1 h2
      exact e4 _ _ (h.hqa i q' k' h1 h2)
  · rw [upd_ne n1.symm]; exact h.hf
  · rw [upd_ne n2.symm]; exact h.hp
theorem pl_forbid (h : PageL CC CP H a L p) (A : Apart Hs H a L p) {q : Addr} {k : Nat × Nat} (hq : H q = some (.tup [nV k.1, nV k.2])) : PageIn CC CP Hs (upd H L.af (.lst (L.fs.map V.ref ++ [.ref q]))) a { p with forbidden := p.forbidden ++ [k] } := by
  obtain ⟨e1, e2, e3, e4, e5⟩ := pl_else (ys := L.fs.map V.ref ++ [.ref q]) h A (x := L.af) (by simp) h.hf
  obtain ⟨_, n0, _, n1, _, n2⟩ := nd4 A.nd
  refine ⟨{ L with fs := L.fs ++ [q] }, ⟨e1, e2, ?_, h.hcl, e3, ?_, h.hql, fun i q k h1 h2 => e4 _ _ (h.hqa i q k h1 h2), ?_, ?_, fun i q' k' h1 h2 => ?_, ?_⟩, ⟨e5, A.hw, A.ht, A.na, A.nl, A.nc, A.nd, A.cd⟩⟩
  · rw [upd_ne n0]; exact h.hc
  · rw [upd_ne n1]; exact h.hq
  · show upd H L.af _ L.af = some (.lst ((L.fs ++ [q]).map V.ref))
    rw [upd_same, List.map_append]; rfl
  · show (L.fs ++ [q]).length = (p.forbidden ++ [k]).length
    rw [List.length_append, List.length_append, h.hfl]; rfl
  · have h1 : (L.fs ++ [q])[i]? = some q' := h1
    have h2 : (p.forbidden ++ [k])[i]? = some k' := h2
    by_cases e : i < L.fs.length
    · rw [List.getElem?_append_left e] at h1
      rw [List.getElem?_append_left (by rw [← h.hfl]; exact e)] at h2
      exact e4 _ _ (h.hfa i q' k' h1 h2)
    · rw [List.getElem?_append_right (by omega)] at h1
      rw [List.getElem?_append_right (by rw [← h.hfl]; omega), ← h.hfl] at h2
      have e0 : i - L.fs.length = 0 := by
        have := (List.getElem?_eq_some_iff.mp h1).1
        simp at this; omega
      rw [e0] at h1 h2
      cases h1
      cases h2
      exact e4 _ _ hq
  · rw [upd_ne n2.symm]; exact h.hp
theorem pl_allow (h : PageL CC CP H a L p) (A : Apart Hs H a L p) (j : Nat) : PageIn CC CP Hs (upd H L.af (.lst ((L.fs.map V.ref).eraseIdx j))) a { p with forbidden := p.forbidden.eraseIdx j } := by
  obtain ⟨e1, e2, e3, e4, e5⟩ := pl_else (ys := (L.fs.map V.ref).eraseIdx j) h A (x := L.af) (by simp) h.hf
  obtain ⟨_, n0, _, n1, _, n2⟩ := nd4 A.nd
  refine ⟨{ L with fs := L.fs.eraseIdx j }, ⟨e1, e2, ?_, h.hcl, e3, ?_, h.hql, fun i q k h1 h2 => e4 _ _ (h.hqa i q k h1 h2), ?_, ?_, fun i q' k' h1 h2 => ?_, ?_⟩, ⟨e5, A.hw, A.ht, A.na, A.nl, A.nc, A.nd, A.cd⟩⟩
  · rw [upd_ne n0]; exact h.hc
  · rw [upd_ne n1]; exact h.hq
  · show upd H L.af _ L.af = some (.lst ((L.fs.eraseIdx j).map V.ref))
    rw [upd_same, map_erase]
  · show (L.fs.eraseIdx j).length = (p.forbidden.eraseIdx j).length
    rw [List.length_eraseIdx, List.length_eraseIdx, h.hfl]
  · have h1 : (L.fs.eraseIdx j)[i]? = some q' := h1
    have h2 : (p.forbidden.eraseIdx j)[i]? = some k' := h2
    rw [List.getElem?_eraseIdx] at h1 h2
    by_cases e : i < j
    · rw [if_pos e] at h1 h2
      exact e4 _ _ (h.hfa i q' k' h1 h2)
    · rw [if_neg e] at h1 h2
      exact e4 _ _ (h.hfa _ q' k' h1 h2)
  · rw [upd_ne n2.symm]; exact h.hp
theorem pl_add (h : PageL CC CP H a L p) (A : Apart Hs H a L p) {c : CL} {k : Candidate} (hc : CandAt CC H c k) (ht : src Hs c.tp = some (.lst (k.topics.map nV))) (hn : Hs c.at_ = none) (hf : ∀ d ∈ L.cs, d.at_ ≠ c.at_) :
    PageIn CC CP Hs (upd H L.ac (.lst ((L.cs.map fun c => V.ref c.at_) ++ [.ref c.at_]))) a { p with candidates := p.candidates ++ [k] } := by
  obtain ⟨e1, e2, e3, e4, e5⟩ := pl_else (ys := (L.cs.map fun c => V.ref c.at_) ++ [.ref c.at_]) h A (x := L.ac) (by simp) h.hc
  obtain ⟨n0, n1, n2, _, _, _⟩ := nd4 A.nd
  have nx := A.nl L.ac (by simp)
  have hc' : CandAt CC (upd H L.ac (.lst ((L.cs.map fun c => V.ref c.at_) ++ [.ref c.at_]))) c k := ⟨by rw [upd_ne (ne_of hc.ins h.hc (by intro z; cases z))]; exact hc.ins, by rw [upd_ne (ne_of_none (src_ex _ _ ht) nx)]; exact hc.tps⟩
  have key : ∀ (i : Nat) (d : CL) (m : Candidate), (L.cs ++ [c])[i]? = some d → (p.candidates ++ [k])[i]? = some m → (L.cs[i]? = some d ∧ p.candidates[i]? = some m) ∨ (d = c ∧ m = k) := by
    intro i d m h1 h2
    by_cases e : i < L.cs.length
    · rw [List.getElem?_append_left e] at h1
      rw [List.getElem?_append_left (by rw [← h.hcl]; exact e)] at h2
      exact .inl ⟨h1, h2⟩
    · rw [List.getElem?_append_right (by omega)] at h1
      rw [List.getElem?_append_right (by rw [← h.hcl]; omega), ← h.hcl] at h2
      have e0 : i - L.cs.length = 0 := by
        have := (List.getElem?_eq_some_iff.mp h1).1
        simp at this; omega
      rw [e0] at h1 h2
      cases h1
      cases h2
      exact .inr ⟨rfl, rfl⟩
  refine ⟨{ L with cs := L.cs ++ [c] }, ⟨e1, e2, ?_, ?_, fun i d m h1 h2 => ?_, ?_, h.hql, fun i q k h1 h2 => e4 _ _ (h.hqa i q k h1 h2), ?_, h.hfl, fun i q k h1 h2 => e4 _ _ (h.hfa i q k h1 h2), ?_⟩, ⟨e5, A.hw, fun i d m h1 h2 => ?_, A.na, A.nl, fun d hd => ?_, A.nd, ?_⟩⟩
  · show upd H L.ac _ L.ac = some (.lst ((L.cs ++ [c]).map fun c => V.ref c.at_))
    rw [upd_same, List.map_append]; rfl
  · show (L.cs ++ [c]).length = (p.candidates ++ [k]).length
    rw [List.length_append, List.length_append, h.hcl]; rfl
  · rcases key i d m h1 h2 with ⟨q1, q2⟩ | ⟨rfl, rfl⟩
    · exact e3 i d m q1 q2
    · exact hc'
  · rw [upd_ne n0.symm]; exact h.hq
  · rw [upd_ne n1.symm]; exact h.hf
  · rw [upd_ne n2.symm]; exact h.hp
  · rcases key i d m h1 h2 with ⟨q1, q2⟩ | ⟨rfl, rfl⟩
    · exact A.ht i d m q1 q2
    · exact ht
  · rcases List.mem_append.mp hd with hd | hd
    · exact A.nc d hd
    · rw [List.mem_singleton] at hd
      rw [hd]; exact hn
  · show ((L.cs ++ [c]).map CL.at_).Nodup
    rw [List.map_append, List.nodup_append]
    refine ⟨A.cd, by simp, fun x hx y hy => ?_⟩
    obtain ⟨d, hd, rfl⟩ := List.mem_map.mp hx
    simp only [List.map_cons, List.map_nil, List.mem_singleton] at hy
    rw [hy]
    exact hf d hd
theorem pl_score (h : PageL CC CP H a L p) (A : Apart Hs H a L p) {i : Nat} {c : CL} (hc : L.cs[i]? = some c) (hi : i < p.candidates.length) (s : Nat) :
    PageIn CC CP Hs (upd H c.at_ (.ins CC c.dx (cF0 s (Kp430.at_ p i).group (Kp430.at_ p i).creator (Kp430.at_ p i).age c.tp))) a { p with candidates := p.candidates.set i { Kp430.at_ p i with score := s } } := by
  have hk : p.candidates[i]? = some (Kp430.at_ p i) := by
    unfold Kp430.at_
    rw [List.getD_eq_getElem?_getD, List.getElem?_eq_getElem hi]; rfl
  have q := h.hca i c _ hc hk
  have nl : ∀ {b : Addr} {xs : List V}, H b = some (.lst xs) → b ≠ c.at_ := fun e => ne_of e q.ins (by intro z; cases z)
  have nt : ∀ {b : Addr} {xs : List V}, H b = some (.tup xs) → b ≠ c.at_ := fun e => ne_of e q.ins (by intro z; cases z)
  have nn := A.nc c (List.mem_of_getElem? hc)
  refine ⟨L, ⟨?_, ?_, ?_, ?_, fun j d m h1 h2 => ?_, ?_, h.hql, fun j q k h1 h2 => ?_, ?_, h.hfl, fun j q k h1 h2 => ?_, ?_⟩, ⟨Ex.mut A.ex nn, A.hw, fun j d m h1 h2 => ?_, A.na, A.nl, A.nc, A.nd, A.cd⟩⟩
  · rw [upd_ne (ne_of q.ins h.ins ins_ne).symm]; exact h.ins
  · rw [upd_ne (nl h.hw)]; exact h.hw
  · rw [upd_ne (nl h.hc)]; exact h.hc
  · rw [List.length_set]; exact h.hcl
  · have h2 : (p.candidates.set i { Kp430.at_ p i with score := s })[j]? = some m := h2
    by_cases e : i = j
    · subst e
      rw [List.getElem?_set_self hi] at h2
      cases h2
      rw [hc] at h1
      cases h1
      exact ⟨upd_same, by rw [upd_ne (nl q.tps)]; exact q.tps⟩
    · rw [List.getElem?_set_ne e] at h2
      have q2 := h.hca j d m h1 h2
      have nd : d.at_ ≠ c.at_ := fun z => e (nd_ix A.cd (by rw [List.getElem?_map, hc]; rfl) (by rw [List.getElem?_map, h1, ← z]; rfl))
      exact ⟨by rw [upd_ne nd]; exact q2.ins, by rw [upd_ne (nl q2.tps)]; exact q2.tps⟩
  · rw [upd_ne (nl h.hq)]; exact h.hq
  · have e := h.hqa j q k h1 h2
    rw [upd_ne (nt e)]; exact e
  · rw [upd_ne (nl h.hf)]; exact h.hf
  · have e := h.hfa j q k h1 h2
    rw [upd_ne (nt e)]; exact e
  · rw [upd_ne (nl h.hp)]; exact h.hp
  · have h2 : (p.candidates.set i { Kp430.at_ p i with score := s })[j]? = some m := h2
    by_cases e : i = j
    · subst e
      rw [List.getElem?_set_self hi] at h2
      cases h2
      exact A.ht i d (Kp430.at_ p i) h1 hk
    · rw [List.getElem?_set_ne e] at h2
      exact A.ht j d m h1 h2
end
end Ps
end

section
set_option maxRecDepth 100000
set_option maxHeartbeats 2000000
namespace Ps
open PySem PySem.Spec PyProof.Rows L2 Evl
section
variable {P : Program} {w : World} {K : PySem.W.Frag} {mg : Str → Option Value} {base : Heap} {CC CP CS : Addr}
theorem map_all_id {α : Type} (l : List α) (f : α → Bool) : (l.map f).all id = l.all f := by rw [List.all_map]; rfl
/-! ### weights_fit -/
def weightsOk (l : List Nat) : Bool := decide (1 ≤ l.length) && decide (l.length ≤ Kp430.maxPositions) && l.all (fun w => decide (1 ≤ w) && decide (w ≤ 1000)) && Kp430.validWeights l
def rWeights (K : PySem.W.Frag) : List V → Hp → V → Prop := fun vs H z => ∃ l ns, vs = [.ref l] ∧ SqL K H l (ns.map nV) ∧ ns.length ≤ 12 ∧ z = .bl (weightsOk ns)
abbrev s_weights_fit : Stmt := topS 25
theorem sc_weights_fit : FnScope ["weights", "weight", "earlier", "later"] ["weights"] (defScope s_weights_fit) := ⟨rfl, rfl, rfl, by decide +kernel, rfl, by decide +kernel, by decide +kernel⟩
theorem ok_weights_fit (T : Txt K mg CC CP CS) (F : FunAt K mg "weights_fit" s_weights_fit ["weights"]) : DefAt P w K mg base 1 "weights_fit" ["weights"] (spV (rWeights K)) := by
  obtain ⟨f, fd, FF, hm, hb⟩ := F.ex
  refine ⟨f, fd, FF.ok sc_weights_fit (fun vs H Q E h => ?_) (fun cdv A outer s H vs Q E hr h => ⟨_, (pss_cons (ps_if (PW.pt (pw_or (pt_cmpR op_lt (pe_callB (lenK (K := K)) (by rfl) T.len (by decide +kernel) (pa_cons (pv 0) pa_nil)) pe_int (nomark _)) (pw_or1 (pt_cmpR op_gt (pe_callB (lenK (K := K)) (by rfl) T.len (by decide +kernel) (pa_cons (pv 0) pa_nil)) (pe_gi T.MOST_POSITIONS) (nomark _))))) (pss_one (ps_ret pe_bl)) pss_nil)
      (pss_cons (ps_if (pt_not (pt_val (pe_callB (allK (K := K)) (by rfl) T.all (by decide +kernel) (pa_cons (pe_lc (own := [("weight", 1)]) rfl sc_weights_fit.nd (wList (K := K) (pv 0)) (blkOk_by (own := [("weight", 1)]) (N := ["weights", "weight", "earlier", "later"]) (sc := defScope s_weights_fit) (by decide +kernel)) (fun _ _ _ _ _ => pg_name (i := 1) sc_weights_fit.nd rfl (Or.inl rfl)) (fun _ _ _ _ _ => pts_nil) (fun _ _ _ _ _ => (pe_chain op_le op_le pe_int (pv 1) (pe_gi T.GREATEST_WEIGHT)))) pa_nil)))) (pss_one (ps_ret pe_bl)) pss_nil)
      (pss_one (ps_ret (pe_callB (allK (K := K)) (by rfl) T.all (by decide +kernel) (pa_cons (pe_lc (own := [("earlier", 2), ("later", 3)]) rfl sc_weights_fit.nd (wZip (K := K) T.zip (pa_cons (pv 0) (pa_cons (pe_slice (slL (K := K)) (pv 0) (po_some pe_int) po_none) pa_nil))) (blkOk_by (own := [("earlier", 2), ("later", 3)]) (N := ["weights", "weight", "earlier", "later"]) (sc := defScope s_weights_fit) (by decide +kernel)) (fun _ _ _ _ _ => gTupK (K := K) (n := 2) (pgs_cons (pg_name (i := 2) sc_weights_fit.nd rfl (Or.inl rfl)) (pgs_cons (pg_name (i := 3) sc_weights_fit.nd rfl (Or.inl rfl)) pgs_nil))) (fun _ _ _ _ _ => pts_nil) (fun _ _ _ _ _ => (pe_cmpR op_le (pv 3) (pv 2) (nomark _)))) pa_nil)))))), ?_⟩), hm, FF.kp, hb⟩
  · obtain ⟨z, ⟨l, ns, rfl, _⟩, _⟩ := h
    rfl
  · obtain ⟨z, ⟨l, ns, rfl, hS, h12, rfl⟩, k⟩ := h
    have hv : ∀ H1, Ex H H1 → ∀ σ : L2.St, σ[0]? = some (some (.ref l)) → EvS K (tVar 0) σ H1 (ns.map nV) := fun H1 e σ h0 => es_of (ev_var h0) (ex_l e hS)
    refine q_when (et_or (et_test (ev_op (ev_lenS (hv H (Ex.refl H) _ rfl)) ev_c rv_I0)) fun _ => et_test (ev_op (ev_lenS (hv H (Ex.refl H) _ rfl)) ev_c rv_I0)) (fun hc H1 e1 => s_ret ev_c fun H2 e2 => ?_) (fun hc H1 e1 => ?_)
    · have : weightsOk ns = false := by
        simp only [List.length_map, Bool.or_eq_true, decide_eq_true_eq] at hc
        unfold weightsOk Kp430.maxPositions
        rcases hc with hc | hc
        · simp; omega
        · simp; omega
      rw [this] at k
      exact k H2 (e1.trans e2)
    · simp only [List.length_map, Bool.or_eq_false_iff, decide_eq_false_iff_not] at hc
      refine q_when (et_not (et_B (ev_allS (bs := ns.map fun n => decide (1 ≤ n) && decide (n ≤ 1000)) (es_new (EvL.is (el_lcM (g := fun n : Nat => V.bl (decide (1 ≤ n) && decide (n ≤ 1000))) (hv H1 e1 _ (by rfl)) (by omega) (by intro _; rfl) fun n H2 e2 _ => ?_) ?_))))) (fun hc2 H2 e2 => s_ret ev_c fun H3 e3 => ?_) (fun hc2 H2 e2 => ?_)
      · refine ev_is (ev_chain ev_c (ev_var rfl) ev_c) ?_
        congr 2
        · simp; omega
        · simp; omega
      · rw [List.map_map]; rfl
      · have : weightsOk ns = false := by
          unfold weightsOk
          rw [map_all_id, Bool.not_eq_true'] at hc2
          rw [hc2]; simp
        rw [this] at k
        exact k H3 ((e1.trans e2).trans e3)
      · rw [map_all_id, Bool.not_eq_false'] at hc2
        have hv2 := hv H2 (e1.trans e2)
        refine s_ret (ev_is (ev_allS (bs := (ns.zip (ns.drop 1)).map fun p => decide (p.2 ≤ p.1)) (es_new (EvL.is (el_lcZ (g := fun a b : Nat => V.bl (decide (b ≤ a))) (r := nV) (s := nV) (l := ns) (m := ns.drop 1)
          (ez_of (hv2 _ (by rfl)) (EvS.is (es_new (es_sl (hv2 _ (by rfl)) (eo_some ev_c) eo_none)) ((cut_from _ 1).trans List.map_drop.symm))) (by omega) (by intro _ _; rfl) fun a b H3 e3 _ => ?_) ?_))) ?_) fun H3 e3 => k H3 ((e1.trans e2).trans e3)
        · refine ev_is (ev_op (ev_var rfl) (ev_var rfl) rv_I0) ?_
          simp
        · rw [List.map_map]; rfl
        · rw [map_all_id, ← valid_zip]
          unfold weightsOk Kp430.maxPositions
          rw [hc2]
          simp; omega
/-! ### topics_fit -/
def rTopics (K : PySem.W.Frag) : List V → Hp → V → Prop := fun vs H z => ∃ l ns, vs = [.ref l] ∧ SqL K H l (ns.map nV) ∧ ns.length ≤ 12 ∧ z = .bl (Kp430.validTopics ns)
abbrev s_topics_fit : Stmt := topS 26
theorem sc_topics_fit : FnScope ["topics", "topic", "earlier", "later"] ["topics"] (defScope s_topics_fit) := ⟨rfl, rfl, rfl, by decide +kernel, rfl, by decide +kernel, by decide +kernel⟩
theorem ok_topics_fit (T : Txt K mg CC CP CS) (F : FunAt K mg "topics_fit" s_topics_fit ["topics"]) : DefAt P w K mg base 1 "topics_fit" ["topics"] (spV (rTopics K)) := by
  obtain ⟨f, fd, FF, hm, hb⟩ := F.ex
  refine ⟨f, fd, FF.ok sc_topics_fit (fun vs H Q E h => ?_) (fun cdv A outer s H vs Q E hr h => ⟨_, (pss_cons (ps_if (pt_not (pt_val (pe_callB (allK (K := K)) (by rfl) T.all (by decide +kernel) (pa_cons (pe_lc (own := [("topic", 1)]) rfl sc_topics_fit.nd (wList (K := K) (pv 0)) (blkOk_by (own := [("topic", 1)]) (N := ["topics", "topic", "earlier", "later"]) (sc := defScope s_topics_fit) (by decide +kernel)) (fun _ _ _ _ _ => pg_name (i := 1) sc_topics_fit.nd rfl (Or.inl rfl)) (fun _ _ _ _ _ => pts_nil) (fun _ _ _ _ _ => (pe_cmpR op_lt (pv 1) (pe_gi T.TOPIC_COUNT) (nomark _)))) pa_nil)))) (pss_one (ps_ret pe_bl)) pss_nil)
      (pss_one (ps_ret (pe_callB (allK (K := K)) (by rfl) T.all (by decide +kernel) (pa_cons (pe_lc (own := [("earlier", 2), ("later", 3)]) rfl sc_topics_fit.nd (wZip (K := K) T.zip (pa_cons (pv 0) (pa_cons (pe_slice (slL (K := K)) (pv 0) (po_some pe_int) po_none) pa_nil))) (blkOk_by (own := [("earlier", 2), ("later", 3)]) (N := ["topics", "topic", "earlier", "later"]) (sc := defScope s_topics_fit) (by decide +kernel)) (fun _ _ _ _ _ => gTupK (K := K) (n := 2) (pgs_cons (pg_name (i := 2) sc_topics_fit.nd rfl (Or.inl rfl)) (pgs_cons (pg_name (i := 3) sc_topics_fit.nd rfl (Or.inl rfl)) pgs_nil))) (fun _ _ _ _ _ => pts_nil) (fun _ _ _ _ _ => (pe_cmpR op_lt (pv 2) (pv 3) (nomark _)))) pa_nil))))), ?_⟩), hm, FF.kp, hb⟩
  · obtain ⟨z, ⟨l, ns, rfl, _⟩, _⟩ := h
    rfl
  · obtain ⟨z, ⟨l, ns, rfl, hS, h12, rfl⟩, k⟩ := h
    have hv : ∀ H1, Ex H H1 → ∀ σ : L2.St, σ[0]? = some (some (.ref l)) → EvS K (tVar 0) σ H1 (ns.map nV) := fun H1 e σ h0 => es_of (ev_var h0) (ex_l e hS)
    have hv0 := hv H (Ex.refl H)
    refine q_when (et_not (et_B (ev_allS (bs := ns.map fun n => decide (n < 12)) (es_new (EvL.is (el_lcM (g := fun n : Nat => V.bl (decide (n < 12))) (hv0 _ (by rfl)) (by omega) (by intro _; rfl) fun n H2 e2 _ => ?_) ?_))))) (fun hc2 H2 e2 => s_ret ev_c fun H3 e3 => ?_) (fun hc2 H2 e2 => ?_)
    · refine ev_is (ev_op (ev_var rfl) ev_c rv_I0) ?_
      congr 2
      simp; omega
    · rw [List.map_map]; rfl
    · have : Kp430.validTopics ns = false := by
        rw [topics_is]
        rw [map_all_id, Bool.not_eq_true'] at hc2
        show (ns.all (fun t => decide (t < 12)) && _) = false
        rw [hc2]; simp
      rw [this] at k
      exact k H3 (e2.trans e3)
    · rw [map_all_id, Bool.not_eq_false'] at hc2
      have hv2 := hv H2 e2
      refine s_ret (ev_is (ev_allS (bs := (ns.zip (ns.drop 1)).map fun p => decide (p.1 < p.2)) (es_new (EvL.is (el_lcZ (g := fun a b : Nat => V.bl (decide (a < b))) (r := nV) (s := nV) (l := ns) (m := ns.drop 1)
        (ez_of (hv2 _ (by rfl)) (EvS.is (es_new (es_sl (hv2 _ (by rfl)) (eo_some ev_c) eo_none)) ((cut_from _ 1).trans List.map_drop.symm))) (by omega) (by intro _ _; rfl) fun a b H3 e3 _ => ?_) ?_))) ?_) fun H3 e3 => k H3 (e2.trans e3)
      · refine ev_is (ev_op (ev_var rfl) (ev_var rfl) rv_I0) ?_
        simp
      · rw [List.map_map]; rfl
      · rw [map_all_id, ← incr_zip, topics_is]
        show _ = V.bl (ns.all (fun t => decide (t < 12)) && _)
        rw [hc2]; rfl
/-! ### candidate_fits -/
def candFits (s g k a : Nat) (l : List Nat) : Bool := decide (s ≤ 10000) && decide (g < Kp430.groupCount) && decide (k ≤ 1000) && decide (a ≤ 10000) && Kp430.validTopics l
def rCandFits (K : PySem.W.Frag) : List V → Hp → V → Prop := fun vs H z => ∃ s g c a l ns, vs = [nV s, nV g, nV c, nV a, .ref l] ∧ SqL K H l (ns.map nV) ∧ ns.length ≤ 12 ∧ z = .bl (candFits s g c a ns)
abbrev s_candidate_fits : Stmt := topS 27
theorem sc_candidate_fits : FnScope ["score", "group", "creator", "age", "topics"] ["score", "group", "creator", "age", "topics"] (defScope s_candidate_fits) := ⟨rfl, rfl, rfl, by decide +kernel, rfl, by decide +kernel, by decide +kernel⟩
theorem ok_candidate_fits (T : Txt K mg CC CP CS) (F : FunAt K mg "candidate_fits" s_candidate_fits ["score", "group", "creator", "age", "topics"]) (D_topics_fit : DefAt P w K mg base 1 "topics_fit" ["topics"] (spV (rTopics K))) :
    DefAt P w K mg base 2 "candidate_fits" ["score", "group", "creator", "age", "topics"] (spV (rCandFits K)) := by
  obtain ⟨f, fd, FF, hm, hb⟩ := F.ex
  refine ⟨f, fd, FF.ok sc_candidate_fits (fun vs H Q E h => ?_) (fun cdv A outer s H vs Q E hr h => ⟨_, (pss_cons (ps_if (PW.pt (pw_or (pt_cmpR op_gt (pv 0) (pe_gi T.GREATEST_SCORE) (nomark _)) (pw_or1 (pt_cmpR op_ge (pv 1) (pe_gi T.GROUP_COUNT) (nomark _))))) (pss_one (ps_ret pe_bl)) pss_nil)
      (pss_cons (ps_if (PW.pt (pw_or (pt_cmpR op_gt (pv 2) (pe_gi T.GREATEST_CREATOR) (nomark _)) (pw_or1 (pt_cmpR op_gt (pv 3) (pe_gi T.GREATEST_AGE) (nomark _))))) (pss_one (ps_ret pe_bl)) pss_nil)
      (pss_one (ps_ret (pe_cd D_topics_fit (hr.mono (by decide)) pass0 (pa_cons (pv 4) pa_nil)))))), ?_⟩), hm, FF.kp, hb⟩
  · obtain ⟨z, ⟨_, _, _, _, _, _, rfl, _⟩, _⟩ := h
    rfl
  · obtain ⟨z, ⟨s, g, c, a, l, ns, rfl, hS, h12, rfl⟩, k⟩ := h
    refine q_when (et_or (et_test (ev_op (ev_var rfl) ev_c rv_I0)) fun _ => et_test (ev_op (ev_var rfl) ev_c rv_I0)) (fun hc H1 e1 => s_ret ev_c fun H2 e2 => ?_) (fun hc H1 e1 => ?_)
    · have : candFits s g c a ns = false := by
        unfold candFits Kp430.groupCount
        simp only [Bool.or_eq_true, decide_eq_true_eq] at hc
        rcases hc with hc | hc
        · rw [decide_eq_false (show ¬ s ≤ 10000 by omega)]; rfl
        · rw [decide_eq_false (show ¬ g < 6 by omega)]; simp
      rw [this] at k
      exact k H2 (e1.trans e2)
    · refine q_when (et_or (et_test (ev_op (ev_var rfl) ev_c rv_I0)) fun _ => et_test (ev_op (ev_var rfl) ev_c rv_I0)) (fun hc2 H2 e2 => s_ret ev_c fun H3 e3 => ?_) (fun hc2 H2 e2 => ?_)
      · have : candFits s g c a ns = false := by
          unfold candFits
          simp only [Bool.or_eq_true, decide_eq_true_eq] at hc2
          rcases hc2 with hc | hc
          · rw [decide_eq_false (show ¬ c ≤ 1000 by omega)]; simp
          · rw [decide_eq_false (show ¬ a ≤ 10000 by omega)]; simp
        rw [this] at k
        exact k H3 ((e1.trans e2).trans e3)
      · refine s_ret (ev_cd (z := .bl (candFits s g c a ns)) (ea_cons (ev_var rfl) ea_nil) fun H3 e3 => ⟨l, ns, rfl, ex_l ((e1.trans e2).trans e3) hS, h12, ?_⟩) fun H3 e3 => k H3 ((e1.trans e2).trans e3)
        simp only [Bool.or_eq_false_iff, decide_eq_false_iff_not] at hc hc2
        unfold candFits Kp430.groupCount
        rw [decide_eq_true (show s ≤ 10000 by omega), decide_eq_true (show g < 6 by omega), decide_eq_true (show c ≤ 1000 by omega), decide_eq_true (show a ≤ 10000 by omega)]
        rfl
/-! ### quota_fits, creators_fit -/
def rQuotaFits : List V → Hp → V → Prop := fun vs H z => ∃ g a b : Nat, vs = [nV g, nV a, nV b] ∧ z = .bl (decide (g < Kp430.groupCount) && decide (a ≤ b) && decide (b ≤ Kp430.maxPositions))
abbrev s_quota_fits : Stmt := topS 28
theorem sc_quota_fits : FnScope ["group", "lower", "upper"] ["group", "lower", "upper"] (defScope s_quota_fits) := ⟨rfl, rfl, rfl, by decide +kernel, rfl, by decide +kernel, by decide +kernel⟩
theorem ok_quota_fits (T : Txt K mg CC CP CS) (F : FunAt K mg "quota_fits" s_quota_fits ["group", "lower", "upper"]) : DefAt P w K mg base 1 "quota_fits" ["group", "lower", "upper"] (spV rQuotaFits) := by
  obtain ⟨f, fd, FF, hm, hb⟩ := F.ex
  refine ⟨f, fd, FF.ok sc_quota_fits (fun vs H Q E h => ?_) (fun cdv A outer s H vs Q E hr h => ⟨_, (pss_one (ps_ret (pe_and (pe_cmpR op_lt (pv 0) (pe_gi T.GROUP_COUNT) (nomark _)) (pe_one (pe_chain op_le op_le (pv 1) (pv 2) (pe_gi T.GREATEST_QUOTA)))))), ?_⟩), hm, FF.kp, hb⟩
  · obtain ⟨z, ⟨_, _, _, rfl, _⟩, _⟩ := h
    rfl
  · obtain ⟨z, ⟨g, a, b, rfl, rfl⟩, k⟩ := h
    refine s_ret (ev_is (ev_andV (ev_op (ev_var rfl) ev_c rv_I0) fun _ => ev_chain (ev_var rfl) (ev_var rfl) ev_c) ?_) fun H1 e1 => k H1 e1
    unfold Kp430.groupCount Kp430.maxPositions
    rw [← Bool.and_assoc]
    congr 2
    · congr 1 <;> (congr 1; simp; try omega)
    · simp; omega
def rCreatorsFit : List V → Hp → V → Prop := fun vs H z => ∃ a b : Nat, vs = [nV a, nV b] ∧ z = .bl (decide (1 ≤ a) && decide (a ≤ Kp430.maxPositions) && decide (1 ≤ b) && decide (b ≤ Kp430.maxPositions))
abbrev s_creators_fit : Stmt := topS 29
theorem sc_creators_fit : FnScope ["limit", "spacing"] ["limit", "spacing"] (defScope s_creators_fit) := ⟨rfl, rfl, rfl, by decide +kernel, rfl, by decide +kernel, by decide +kernel⟩
theorem ok_creators_fit (T : Txt K mg CC CP CS) (F : FunAt K mg "creators_fit" s_creators_fit ["limit", "spacing"]) : DefAt P w K mg base 1 "creators_fit" ["limit", "spacing"] (spV rCreatorsFit) := by
  obtain ⟨f, fd, FF, hm, hb⟩ := F.ex
  refine ⟨f, fd, FF.ok sc_creators_fit (fun vs H Q E h => ?_) (fun cdv A outer s H vs Q E hr h => ⟨_, (pss_one (ps_ret (pe_and (pe_chain op_le op_le pe_int (pv 0) (pe_gi T.GREATEST_LIMIT)) (pe_one (pe_chain op_le op_le pe_int (pv 1) (pe_gi T.GREATEST_SPACING)))))), ?_⟩), hm, FF.kp, hb⟩
  · obtain ⟨z, ⟨_, _, rfl, _⟩, _⟩ := h
    rfl
  · obtain ⟨z, ⟨a, b, rfl, rfl⟩, k⟩ := h
    refine s_ret (ev_is (ev_andV (ev_chain ev_c (ev_var rfl) ev_c) fun _ => ev_chain ev_c (ev_var rfl) ev_c) ?_) fun H1 e1 => k H1 e1
    unfold Kp430.maxPositions
    rw [← Bool.and_assoc]
    congr 2
    · congr 1
      · congr 1 <;> (simp; try omega)
      · simp; omega
    · simp; omega
end
end Ps
end

section
set_option maxRecDepth 100000
set_option maxHeartbeats 2000000
namespace Ps
open PySem PySem.Spec PyProof.Rows L2 Evl
open Kp430 (Page Candidate Quota)
/-- what follows a call that may change the page -/
def After (CC CP : Addr) (Hs : Hp) (a : Addr) (x : Kp430.State × Kp430.Ans) (Q : VK) : Prop := ∀ H' r p', x.1 = some p' → PageIn CC CP Hs H' a p' → H' r = some (.lst (aL x.2)) → Hs r = none → Q (.ref r) H'
def spM (CC CP : Addr) (call : List V → Hp → Kp430.Call → Prop) : Sp := fun vs H Q _ => ∃ Hs a p rest c, vs = .ref a :: rest ∧ PageIn CC CP Hs H a p ∧ Wf p ∧ call rest Hs c ∧ After CC CP Hs a (Kp430.step (some p) c) Q
section
variable {P : Program} {w : World} {K : PySem.W.Frag} {mg : Str → Option Value} {base : Heap} {CC CP CS : Addr} {σ : L2.St} {H Hs : Hp} {D : Ends} {a : Addr} {L : Lay} {p : Page} {tp tv te to ti : TE} {Q : VK}
theorem Apart.fresh {q : Addr} (A : Apart Hs H a L p) (h : H q = none) : Hs q = none := fresh_back A.ex h
/-- an answer that leaves the page as it is -/
theorem ret_err {n : Int} (hI : PageIn CC CP Hs H a p) (ha : Ev te σ H (.int n)) (k : After CC CP Hs a (some p, Kp430.single n) D.rt) : tRet (tLst (tCons te tNil)) D σ H :=
  s_retL (el_lst (ea_cons ha ea_nil) (by show 1 ≤ 100000; decide)) fun r H1 hr e1 h => k H1 r p rfl (hI.mono e1) h (hI.elim fun _ q => fresh_back q.2.ex hr)
theorem ret_new {x : Kp430.Ans} {p' : Page} (hI : PageIn CC CP Hs H a p') (ha : EvL te σ H (aL x)) (k : After CC CP Hs a (some p', x) D.rt) : tRet te D σ H :=
  s_retL ha fun r H1 hr e1 h => k H1 r p' rfl (hI.mono e1) h (hI.elim fun _ q => fresh_back q.2.ex hr)
theorem ret_one {n : Int} {p' : Page} (hI : PageIn CC CP Hs H a p') (ha : Ev te σ H (.int n)) (k : After CC CP Hs a (some p', Kp430.single n) D.rt) : tRet (tLst (tCons te tNil)) D σ H := ret_new hI (el_lst (ea_cons ha ea_nil) (by show 1 ≤ 100000; decide)) k
theorem put1 {f : Str} {v : V} {fs gs : List (Str × V)} (e : putF f v fs = gs) {C dx x : Addr} {H1 : Hp} : upd H1 x (.ins C dx (putF f v fs)) = upd H1 x (.ins C dx gs) := by rw [e]
/-! ### set_creators, set_freshness, set_diversity -/
def cCreators : List V → Hp → Kp430.Call → Prop := fun rest _ c => ∃ x y, rest = [nV x, nV y] ∧ c = .setCreators x y
abbrev s_set_creators : Stmt := topS 102
theorem sc_set_creators : FnScope ["page", "limit", "spacing"] ["page", "limit", "spacing"] (defScope s_set_creators) := ⟨rfl, rfl, rfl, by decide +kernel, rfl, by decide +kernel, by decide +kernel⟩
theorem ok_set_creators (T : Txt K mg CC CP CS) (F : FunAt K mg "set_creators" s_set_creators ["page", "limit", "spacing"]) (D_creators_fit : DefAt P w K mg base 1 "creators_fit" ["limit", "spacing"] (spV rCreatorsFit)) :
    DefAt P w K mg base 2 "set_creators" ["page", "limit", "spacing"] (spM CC CP cCreators) := by
  obtain ⟨f, fd, FF, hm, hb⟩ := F.ex
  refine ⟨f, fd, FF.ok sc_set_creators (fun vs H Q E h => ?_) (fun cdv A outer s H vs Q E hr h => ⟨_, (pss_cons (ps_if (pt_not (pt_val (pe_cd D_creators_fit (hr.mono (by decide)) pass0 (pa_cons (pv 1) (pa_cons (pv 2) pa_nil))))) (pss_one (ps_ret (pe_lst (pa_cons (pe_gi T.OUTSIDE_LIMITS) pa_nil)))) pss_nil)
      (pss_cons (sfldK (K := K) (pv 0) (pv 1))
      (pss_cons (sfldK (K := K) (pv 0) (pv 2))
      (pss_one (ps_ret (pe_lst (pa_cons pe_int pa_nil))))))), ?_⟩), hm, FF.kp, hb⟩
  · obtain ⟨_, _, _, _, _, rfl, _, _, ⟨_, _, rfl, _⟩, _⟩ := h
    rfl
  · obtain ⟨Hs, a, p, _, _, rfl, ⟨L, hp, A⟩, wf, ⟨x, y, rfl, rfl⟩, k⟩ := h
    have hst : Kp430.step (some p) (.setCreators x y) = if (decide (1 ≤ x) && decide (x ≤ Kp430.maxPositions) && decide (1 ≤ y) && decide (y ≤ Kp430.maxPositions)) = false then (some p, Kp430.single (-22)) else (some { p with creatorLimit := x, spacing := y }, Kp430.single 0) := rfl
    rw [hst] at k
    refine q_when (et_not (et_B (ev_cd (z := .bl (decide (1 ≤ x) && decide (x ≤ Kp430.maxPositions) && decide (1 ≤ y) && decide (y ≤ Kp430.maxPositions))) (ea_cons (ev_var rfl) (ea_cons (ev_var rfl) ea_nil)) fun H1 e1 => ⟨x, y, rfl, rfl⟩))) (fun hb H1 e1 => ?_) (fun hb H1 e1 => ?_)
    · rw [Bool.not_eq_true'] at hb
      rw [if_pos hb] at k
      exact ret_err ⟨L, hp.mono e1, A.mono e1⟩ ev_c k
    · rw [Bool.not_eq_false'] at hb
      rw [if_neg (by rw [hb]; decide)] at k
      refine q_fld (ev_var rfl) (ev_var rfl) (hp.mono e1).ins T.cPage T.nP_limit (by show 10 < 1000; decide) fun H2 e2 => ?_
      rw [put1 pF0_put_limit]
      refine q_fld (ev_var rfl) (ev_var rfl) upd_same T.cPage T.nP_spacing (by show 10 < 1000; decide) fun H3 e3 => ?_
      rw [put1 pF0_put_spacing]
      have e12 := e1.trans e2
      have h2 : PageIn CC CP Hs (upd H3 a (.ins CP L.dx (pF L { p with creatorLimit := x, spacing := y }))) a { p with creatorLimit := x, spacing := y } := by
        have g := (pl_fieldsL (p' := { p with creatorLimit := x }) (hp.mono e12) (A.mono e12) rfl rfl rfl rfl rfl)
        exact pl_fields (p := { p with creatorLimit := x }) (g.1.mono e3) (g.2.mono e3) rfl rfl rfl rfl rfl
      exact ret_one h2 ev_c k
def cFreshness : List V → Hp → Kp430.Call → Prop := fun rest _ c => ∃ x y, rest = [nV x, nV y] ∧ c = .setFreshness x y
abbrev s_set_freshness : Stmt := topS 103
theorem sc_set_freshness : FnScope ["page", "age", "least"] ["page", "age", "least"] (defScope s_set_freshness) := ⟨rfl, rfl, rfl, by decide +kernel, rfl, by decide +kernel, by decide +kernel⟩
theorem ok_set_freshness (T : Txt K mg CC CP CS) (F : FunAt K mg "set_freshness" s_set_freshness ["page", "age", "least"]) : DefAt P w K mg base 2 "set_freshness" ["page", "age", "least"] (spM CC CP cFreshness) := by
  obtain ⟨f, fd, FF, hm, hb⟩ := F.ex
  refine ⟨f, fd, FF.ok sc_set_freshness (fun vs H Q E h => ?_) (fun cdv A outer s H vs Q E hr h => ⟨_, (pss_cons (ps_if (PW.pt (pw_or (pt_cmpR op_gt (pv 1) (pe_gi T.GREATEST_AGE) (nomark _)) (pw_or1 (pt_cmpR op_gt (pv 2) (pe_callB (lenK (K := K)) (by rfl) T.len (by decide +kernel) (pa_cons (fldK (K := K) (pv 0)) pa_nil)) (nomark _))))) (pss_one (ps_ret (pe_lst (pa_cons (pe_gi T.OUTSIDE_LIMITS) pa_nil)))) pss_nil)
      (pss_cons (sfldK (K := K) (pv 0) (pv 1))
      (pss_cons (sfldK (K := K) (pv 0) (pv 2))
      (pss_one (ps_ret (pe_lst (pa_cons pe_int pa_nil))))))), ?_⟩), hm, FF.kp, hb⟩
  · obtain ⟨_, _, _, _, _, rfl, _, _, ⟨_, _, rfl, _⟩, _⟩ := h
    rfl
  · obtain ⟨Hs, a, p, _, _, rfl, ⟨L, hp, A⟩, wf, ⟨x, y, rfl, rfl⟩, k⟩ := h
    have hst : Kp430.step (some p) (.setFreshness x y) = if (decide (x ≤ 10000) && decide (y ≤ p.weights.length)) = false then (some p, Kp430.single (-22)) else (some { p with freshAge := x, leastFresh := y }, Kp430.single 0) := rfl
    rw [hst] at k
    refine q_when (et_or (et_test (ev_op (ev_var rfl) ev_c rv_I0)) fun _ => et_test (ev_is (ev_op (ev_var rfl) (pg_lenW T hp (ev_var rfl)) rv_I0) nv_lt)) (fun hb H1 e1 => ?_) (fun hb H1 e1 => ?_)
    · have : (decide (x ≤ 10000) && decide (y ≤ p.weights.length)) = false := by
        simp only [Bool.or_eq_true, decide_eq_true_eq] at hb
        rcases hb with hb | hb
        · rw [decide_eq_false (by omega)]; rfl
        · rw [decide_eq_false (show ¬ y ≤ p.weights.length by omega)]; simp
      rw [if_pos this] at k
      exact ret_err ⟨L, hp.mono e1, A.mono e1⟩ ev_c k
    · have : (decide (x ≤ 10000) && decide (y ≤ p.weights.length)) = true := by
        simp only [Bool.or_eq_false_iff, decide_eq_false_iff_not] at hb
        rw [decide_eq_true (show x ≤ 10000 by omega), decide_eq_true (show y ≤ p.weights.length by omega)]; rfl
      rw [if_neg (by rw [this]; decide)] at k
      refine q_fld (ev_var rfl) (ev_var rfl) (hp.mono e1).ins T.cPage T.nP_fresh_age (by show 10 < 1000; decide) fun H2 e2 => ?_
      rw [put1 pF0_put_fresh_age]
      refine q_fld (ev_var rfl) (ev_var rfl) upd_same T.cPage T.nP_fresh_least (by show 10 < 1000; decide) fun H3 e3 => ?_
      rw [put1 pF0_put_fresh_least]
      have e12 := e1.trans e2
      have h2 : PageIn CC CP Hs (upd H3 a (.ins CP L.dx (pF L { p with freshAge := x, leastFresh := y }))) a { p with freshAge := x, leastFresh := y } := by
        have g := (pl_fieldsL (p' := { p with freshAge := x }) (hp.mono e12) (A.mono e12) rfl rfl rfl rfl rfl)
        exact pl_fields (p := { p with freshAge := x }) (g.1.mono e3) (g.2.mono e3) rfl rfl rfl rfl rfl
      exact ret_one h2 ev_c k
def cDiversity : List V → Hp → Kp430.Call → Prop := fun rest _ c => ∃ x, rest = [nV x] ∧ c = .setDiversity x
abbrev s_set_diversity : Stmt := topS 104
theorem sc_set_diversity : FnScope ["page", "weight", "old_weight"] ["page", "weight"] (defScope s_set_diversity) := ⟨rfl, rfl, rfl, by decide +kernel, rfl, by decide +kernel, by decide +kernel⟩
theorem ok_set_diversity (T : Txt K mg CC CP CS) (F : FunAt K mg "set_diversity" s_set_diversity ["page", "weight"]) : DefAt P w K mg base 2 "set_diversity" ["page", "weight"] (spM CC CP cDiversity) := by
  obtain ⟨f, fd, FF, hm, hb⟩ := F.ex
  refine ⟨f, fd, FF.ok sc_set_diversity (fun vs H Q E h => ?_) (fun cdv A outer s H vs Q E hr h => ⟨_, (pss_cons (ps_if (pt_cmpR op_gt (pv 1) (pe_gi T.GREATEST_DIVERSITY) (nomark _)) (pss_one (ps_ret (pe_lst (pa_cons (pe_gi T.OUTSIDE_LIMITS) pa_nil)))) pss_nil)
      (pss_cons (ps_set (i := 2) sc_set_diversity.nd rfl (Or.inl rfl) (fldK (K := K) (pv 0)))
      (pss_cons (sfldK (K := K) (pv 0) (pv 1))
      (pss_one (ps_ret (pe_lst (pa_cons (pv 2) pa_nil))))))), ?_⟩), hm, FF.kp, hb⟩
  · obtain ⟨_, _, _, _, _, rfl, _, _, ⟨_, rfl, _⟩, _⟩ := h
    rfl
  · obtain ⟨Hs, a, p, _, _, rfl, ⟨L, hp, A⟩, wf, ⟨x, rfl, rfl⟩, k⟩ := h
    have hst : Kp430.step (some p) (.setDiversity x) = if 100000 < x then (some p, Kp430.single (-22)) else (some { p with diversity := x }, Kp430.single (p.diversity : Nat)) := rfl
    rw [hst] at k
    refine q_when (et_test (ev_op (ev_var rfl) ev_c rv_I0)) (fun hb H1 e1 => ?_) (fun hb H1 e1 => ?_)
    · rw [if_pos (by have := of_decide_eq_true hb; omega)] at k
      exact ret_err ⟨L, hp.mono e1, A.mono e1⟩ ev_c k
    · rw [if_neg (by have := of_decide_eq_false hb; omega)] at k
      refine q_asg (pg_diversity T (hp.mono e1) (ev_var rfl)) fun H2 e2 => ?_
      refine q_fld (ev_var rfl) (ev_var rfl) ((hp.mono e1).mono e2).ins T.cPage T.nP_diversity (by show 10 < 1000; decide) fun H3 e3 => ?_
      rw [put1 pF0_put_diversity]
      have e13 := (e1.trans e2).trans e3
      exact ret_one (pl_fields (p' := { p with diversity := x }) (hp.mono e13) (A.mono e13) rfl rfl rfl rfl rfl) (ev_var rfl) k
/-! ### set_score -/
def cScore : List V → Hp → Kp430.Call → Prop := fun rest _ c => ∃ x y, rest = [nV x, nV y] ∧ c = .setScore x y
abbrev s_set_score : Stmt := topS 100
theorem sc_set_score : FnScope ["page", "candidate", "score", "changed", "old_score"] ["page", "candidate", "score"] (defScope s_set_score) := ⟨rfl, rfl, rfl, by decide +kernel, rfl, by decide +kernel, by decide +kernel⟩
theorem ok_set_score (T : Txt K mg CC CP CS) (F : FunAt K mg "set_score" s_set_score ["page", "candidate", "score"]) (D_Page_has_candidate : MethAt P w K mg base 1 CP "has_candidate" ["self", "candidate"] (spV (rHasC CC CP))) :
    DefAt P w K mg base 2 "set_score" ["page", "candidate", "score"] (spM CC CP cScore) := by
  obtain ⟨f, fd, FF, hm, hb⟩ := F.ex
  refine ⟨f, fd, FF.ok sc_set_score (fun vs H Q E h => ?_) (fun cdv A outer s H vs Q E hr h => ⟨_, (pss_cons (ps_if (pt_not (pt_val (pe_mt D_Page_has_candidate T.cPage (hr.mono (by decide)) pass0 (pv 0) (pa_cons (pv 1) pa_nil)))) (pss_one (ps_ret (pe_lst (pa_cons (pe_gi T.NO_CANDIDATE) pa_nil)))) pss_nil)
      (pss_cons (ps_if (pt_cmpR op_gt (pv 2) (pe_gi T.GREATEST_SCORE) (nomark _)) (pss_one (ps_ret (pe_lst (pa_cons (pe_gi T.OUTSIDE_LIMITS) pa_nil)))) pss_nil)
      (pss_cons (ps_set (i := 3) sc_set_score.nd rfl (Or.inl rfl) (pe_ix (ixL (K := K)) (fldK (K := K) (pv 0)) (pv 1) (fun _ _ => rfl)))
      (pss_cons (ps_set (i := 4) sc_set_score.nd rfl (Or.inl rfl) (fldK (K := K) (pv 3)))
      (pss_cons (sfldK (K := K) (pv 3) (pv 2))
      (pss_one (ps_ret (pe_lst (pa_cons (pv 4) pa_nil))))))))), ?_⟩), hm, FF.kp, hb⟩
  · obtain ⟨_, _, _, _, _, rfl, _, _, ⟨_, _, rfl, _⟩, _⟩ := h
    rfl
  · obtain ⟨Hs, a, p, _, _, rfl, ⟨L, hp, A⟩, wf, ⟨c, s, rfl, rfl⟩, k⟩ := h
    have hst : Kp430.step (some p) (.setScore c s) = if Kp430.hasCandidate p c = false then (some p, Kp430.single (-2)) else if 10000 < s then (some p, Kp430.single (-22)) else (some { p with candidates := p.candidates.set c { Kp430.at_ p c with score := s } }, Kp430.single ((Kp430.at_ p c).score : Nat)) := rfl
    rw [hst] at k
    refine q_when (et_not (et_B (ev_hasC T hp (ev_var rfl) (ev_var rfl)))) (fun hb H1 e1 => ?_) (fun hb H1 e1 => ?_)
    · rw [Bool.not_eq_true'] at hb
      rw [if_pos hb] at k
      exact ret_err ⟨L, hp.mono e1, A.mono e1⟩ ev_c k
    · rw [Bool.not_eq_false'] at hb
      rw [if_neg (by rw [hb]; decide)] at k
      have hc : c < p.candidates.length := of_decide_eq_true hb
      refine q_when (et_test (ev_op (ev_var rfl) ev_c rv_I0)) (fun hb2 H2 e2 => ?_) (fun hb2 H2 e2 => ?_)
      · rw [if_pos (by have := of_decide_eq_true hb2; omega)] at k
        exact ret_err ⟨L, hp.mono (e1.trans e2), A.mono (e1.trans e2)⟩ ev_c k
      · rw [if_neg (by have := of_decide_eq_false hb2; omega)] at k
        have e12 := e1.trans e2
        obtain ⟨kc, hkc, hca⟩ := (hp.mono e12).cand hc
        refine q_asg (pg_cand T (hp.mono e12) hkc (ev_var rfl) (ev_var rfl)) fun H3 e3 => ?_
        refine q_asg (cd_score T (hca.mono e3) (ev_var rfl)) fun H4 e4 => ?_
        refine q_fld (ev_var rfl) (ev_var rfl) ((hca.mono e3).mono e4).ins T.cCandidate T.nC_score (by show 5 < 1000; decide) fun H5 e5 => ?_
        rw [put1 cF0_put_score]
        have e15 := ((e12.trans e3).trans e4).trans e5
        exact ret_one (pl_score (hp.mono e15) (A.mono e15) hkc hc s) (ev_var rfl) k
/-! ### set_quota -/
theorem q_setU {tz : TS} {l : Addr} {xs ys : List V} {j : Nat} (hl : H l = some (.lst xs)) (h : EvU te σ H ys) (ho : Ev to σ H (.ref l)) (hi : Ev ti σ H (.int (j : Int))) (hj : j < xs.length) (k : ∀ q H1, H q = none → Ex H H1 → H1 q = some (.tup ys) → tz D σ (upd H1 l (.lst (xs.set j (.ref q))))) :
    tSeq (tAsg te (gSub to ti rSetL)) tz D σ H := h H (Ex.refl H) _ fun q H1 hq e1 h1 => ho H1 e1 _ fun H2 e2 => hi H2 (e1.trans e2) _ fun H3 e3 =>
  ⟨l, xs, (j : Int), j, rfl, rfl, ((e1.trans e2).trans e3) l _ hl, ixN_nat hj, k q H3 hq ((e1.trans e2).trans e3) ((e2.trans e3) _ _ h1)⟩
theorem el_listT {q : Addr} {xs : List V} (ha : Ev te σ H (.ref q)) (h : H q = some (.tup xs)) : EvL (tCB (rListS K) (tCons te tNil)) σ H xs := fun H1 e Q k =>
  ha H1 e _ fun H2 e2 => ⟨q, xs, rfl, .inr (st_of ((e.trans e2) _ _ h)), fun l hl => k l _ (fresh_back e2 hl) (e2.trans (Ex.new hl)) upd_same⟩
def cQuota : List V → Hp → Kp430.Call → Prop := fun rest _ c => ∃ x y z, rest = [nV x, nV y, nV z] ∧ c = .setQuota x y z
abbrev s_set_quota : Stmt := topS 101
theorem sc_set_quota : FnScope ["page", "group", "lower", "upper", "old_quota"] ["page", "group", "lower", "upper"] (defScope s_set_quota) := ⟨rfl, rfl, rfl, by decide +kernel, rfl, by decide +kernel, by decide +kernel⟩
theorem ok_set_quota (T : Txt K mg CC CP CS) (F : FunAt K mg "set_quota" s_set_quota ["page", "group", "lower", "upper"]) (D_quota_fits : DefAt P w K mg base 1 "quota_fits" ["group", "lower", "upper"] (spV rQuotaFits)) :
    DefAt P w K mg base 2 "set_quota" ["page", "group", "lower", "upper"] (spM CC CP cQuota) := by
  obtain ⟨f, fd, FF, hm, hb⟩ := F.ex
  refine ⟨f, fd, FF.ok sc_set_quota (fun vs H Q E h => ?_) (fun cdv A outer s H vs Q E hr h => ⟨_, (pss_cons (ps_if (pt_not (pt_val (pe_cd D_quota_fits (hr.mono (by decide)) pass0 (pa_cons (pv 1) (pa_cons (pv 2) (pa_cons (pv 3) pa_nil)))))) (pss_one (ps_ret (pe_lst (pa_cons (pe_gi T.OUTSIDE_LIMITS) pa_nil)))) pss_nil)
      (pss_cons (ps_set (i := 4) sc_set_quota.nd rfl (Or.inl rfl) (pe_ix (ixL (K := K)) (fldK (K := K) (pv 0)) (pv 1) (fun _ _ => rfl)))
      (pss_cons (ps_asg (pe_tup (pa_cons (pv 2) (pa_cons (pv 3) pa_nil))) (pg_sub (fldK (K := K) (pv 0)) (pv 1) set_list))
      (pss_one (ps_ret (pe_callTy (listK (K := K)) (by rfl) T.list (by decide +kernel) (pa_cons (pv 4) pa_nil))))))), ?_⟩), hm, FF.kp, hb⟩
  · obtain ⟨_, _, _, _, _, rfl, _, _, ⟨_, _, _, rfl, _⟩, _⟩ := h
    rfl
  · obtain ⟨Hs, a, p, _, _, rfl, ⟨L, hp, A⟩, wf, ⟨g, x, y, rfl, rfl⟩, k⟩ := h
    have hst : Kp430.step (some p) (.setQuota g x y) = if (decide (g < Kp430.groupCount) && decide (x ≤ y) && decide (y ≤ Kp430.maxPositions)) = false then (some p, Kp430.single (-22)) else
      (some { p with quotas := p.quotas.set g ⟨x, y⟩ }, Kp430.natResult (Kp430.quotaOf p g).lower [(Kp430.quotaOf p g).upper]) := rfl
    rw [hst] at k
    refine q_when (et_not (et_B (ev_cd (z := .bl (decide (g < Kp430.groupCount) && decide (x ≤ y) && decide (y ≤ Kp430.maxPositions))) (ea_cons (ev_var rfl) (ea_cons (ev_var rfl) (ea_cons (ev_var rfl) ea_nil))) fun H1 e1 => ⟨g, x, y, rfl, rfl⟩))) (fun hb H1 e1 => ?_) (fun hb H1 e1 => ?_)
    · rw [Bool.not_eq_true'] at hb
      rw [if_pos hb] at k
      exact ret_err ⟨L, hp.mono e1, A.mono e1⟩ ev_c k
    · rw [Bool.not_eq_false'] at hb
      rw [if_neg (by rw [hb]; decide)] at k
      rw [Bool.and_eq_true, Bool.and_eq_true] at hb
      have hg : g < 6 := of_decide_eq_true hb.1.1
      obtain ⟨q, hq, hqt⟩ := pg_quota (hp.mono e1) wf hg
      refine q_asg (pg_quotaEv T (hp.mono e1) hq (ev_var rfl) (ev_var rfl)) fun H2 e2 => ?_
      have hp2 := (hp.mono e1).mono e2
      refine q_setU hp2.hq (eu_tup (ea_cons (ev_var rfl) (ea_cons (ev_var rfl) ea_nil)) (by show 2 ≤ 100000; decide)) (pg_quotas T hp2 (ev_var rfl)) (ev_var rfl) (by rw [List.length_map, hp2.hql, wf.qn]; exact hg) fun t H3 ht e3 h3 => ?_
      have e13 := (e1.trans e2).trans e3
      have hI := pl_quota (k := ⟨x, y⟩) (g := g) (hp.mono e13) (A.mono e13) h3
      refine ret_new hI (el_listT (ev_var rfl) ?_) k
      rw [upd_ne (ne_of ((e2.trans e3) _ _ hqt) (hp.mono e13).hq (by intro z; cases z))]
      exact (e2.trans e3) _ _ hqt
/-! ### unpin -/
theorem q_setV {tz : TS} {l : Addr} {xs : List V} {v : V} {j : Nat} (hl : H l = some (.lst xs)) (h : Ev te σ H v) (ho : Ev to σ H (.ref l)) (hi : Ev ti σ H (.int (j : Int))) (hj : j < xs.length) (k : ∀ H1, Ex H H1 → tz D σ (upd H1 l (.lst (xs.set j v)))) :
    tSeq (tAsg te (gSub to ti rSetL)) tz D σ H := q_setL hl h ho hi hj k
theorem oV_non {o : Option Nat} : decide (oV o = V.non) = o.isNone := by
  cases o <;> rfl
def cUnpin : List V → Hp → Kp430.Call → Prop := fun rest _ c => ∃ x, rest = [nV x] ∧ c = .unpin x
abbrev s_unpin : Stmt := topS 109
theorem sc_unpin : FnScope ["page", "position", "pinned"] ["page", "position"] (defScope s_unpin) := ⟨rfl, rfl, rfl, by decide +kernel, rfl, by decide +kernel, by decide +kernel⟩
theorem ok_unpin (T : Txt K mg CC CP CS) (F : FunAt K mg "unpin" s_unpin ["page", "position"]) (D_Page_has_position : MethAt P w K mg base 1 CP "has_position" ["self", "position"] (spV (rHasP CC CP))) :
    DefAt P w K mg base 2 "unpin" ["page", "position"] (spM CC CP cUnpin) := by
  obtain ⟨f, fd, FF, hm, hb⟩ := F.ex
  refine ⟨f, fd, FF.ok sc_unpin (fun vs H Q E h => ?_) (fun cdv A outer s H vs Q E hr h => ⟨_, (pss_cons (ps_if (pt_not (pt_val (pe_mt D_Page_has_position T.cPage (hr.mono (by decide)) pass0 (pv 0) (pa_cons (pv 1) pa_nil)))) (pss_one (ps_ret (pe_lst (pa_cons (pe_gi T.OUTSIDE_LIMITS) pa_nil)))) pss_nil)
      (pss_cons (ps_set (i := 2) sc_unpin.nd rfl (Or.inl rfl) (pe_ix (ixL (K := K)) (fldK (K := K) (pv 0)) (pv 1) (fun _ _ => rfl)))
      (pss_cons (ps_if (pt_cmpR op_isN (pv 2) pe_non (nomark _)) (pss_one (ps_ret (pe_lst (pa_cons (pe_gi T.NOT_THERE) pa_nil)))) pss_nil)
      (pss_cons (ps_asg pe_non (pg_sub (fldK (K := K) (pv 0)) (pv 1) set_list))
      (pss_one (ps_ret (pe_lst (pa_cons (pv 2) pa_nil)))))))), ?_⟩), hm, FF.kp, hb⟩
  · obtain ⟨_, _, _, _, _, rfl, _, _, ⟨_, rfl, _⟩, _⟩ := h
    rfl
  · obtain ⟨Hs, a, p, _, _, rfl, ⟨L, hp, A⟩, wf, ⟨x, rfl, rfl⟩, k⟩ := h
    have hst : Kp430.step (some p) (.unpin x) = if p.weights.length ≤ x then (some p, Kp430.single (-22)) else (match Kp430.pinAt p x with
      | none => (some p, Kp430.single (-33))
      | some c => (some { p with pins := p.pins.set x none }, Kp430.single (c : Nat))) := rfl
    rw [hst] at k
    refine q_when (et_not (et_B (ev_hasP T hp (ev_var rfl) (ev_var rfl)))) (fun hb H1 e1 => ?_) (fun hb H1 e1 => ?_)
    · rw [Bool.not_eq_true'] at hb
      rw [if_pos (by have := of_decide_eq_false hb; omega)] at k
      exact ret_err ⟨L, hp.mono e1, A.mono e1⟩ ev_c k
    · rw [Bool.not_eq_false'] at hb
      have hx : x < p.weights.length := of_decide_eq_true hb
      rw [if_neg (by omega)] at k
      refine q_asg (pg_pin T (hp.mono e1) wf hx (ev_var rfl) (ev_var rfl)) fun H2 e2 => ?_
      refine q_when (et_test (ev_is (ev_op (ev_var rfl) ev_c rv_isN) (congrArg V.bl oV_non))) (fun hb2 H3 e3 => ?_) (fun hb2 H3 e3 => ?_)
      · have e13 := (e1.trans e2).trans e3
        rw [Option.isNone_iff_eq_none] at hb2
        rw [hb2] at k
        exact ret_err ⟨L, hp.mono e13, A.mono e13⟩ ev_c k
      · have e13 := (e1.trans e2).trans e3
        cases hpin : Kp430.pinAt p x with
        | none => rw [hpin] at hb2; cases hb2
        | some c =>
          rw [hpin] at k
          have hp3 := hp.mono e13
          refine q_setV hp3.hp ev_c (pg_pins T hp3 (ev_var rfl)) (ev_var rfl) (by rw [List.length_map, wf.pn]; exact hx) fun H4 e4 => ?_
          have e14 := e13.trans e4
          have hI := pl_pins (hp.mono e14) (A.mono e14) (p.pins.set x none)
          rw [List.map_set] at hI
          exact ret_one hI (ev_var rfl) k
end
end Ps
end

section
set_option maxRecDepth 100000
set_option maxHeartbeats 2000000
namespace Ps
open PySem PySem.Spec PyProof.Rows L2 Evl
open Kp430 (Page Candidate Quota)
section
variable {P : Program} {w : World} {K : PySem.W.Frag} {mg : Str → Option Value} {base : Heap} {CC CP CS : Addr}
theorem inV_pins (x : Nat) (l : List (Option Nat)) : inV (nV x) (l.map oV) = decide (some x ∈ l) := by
  unfold inV
  rw [List.any_map, Bool.eq_iff_iff, List.any_eq_true, decide_eq_true_eq]
  constructor
  · rintro ⟨o, ho, e⟩
    cases o with
    | none => exact absurd (show false = true from e) (by decide)
    | some y =>
      have e : ((y : Int) == (x : Int)) = true := e
      rw [beq_iff_eq] at e
      have : y = x := by omega
      exact this ▸ ho
  · intro h
    exact ⟨some x, h, by show ((x : Int) == (x : Int)) = true; exact beq_self_eq_true _⟩
theorem flat_pins (l : List (Option Nat)) : (l.map oV).all flatV = true := by
  rw [List.all_map, List.all_eq_true]
  intro o _
  cases o <;> rfl
theorem pin_clash {p : Page} (wf : Wf p) {k c : Nat} (hk : k < p.weights.length) : ((List.range (Kp430.positions p)).any fun j => j != k && Kp430.pinAt p j == some c) = (decide (some c ∈ p.pins) && !decide (oV (Kp430.pinAt p k) = nV c)) := by
  have ov : (oV (Kp430.pinAt p k) = nV c) ↔ Kp430.pinAt p k = some c := by
    cases Kp430.pinAt p k with
    | none => exact ⟨(fun q => nomatch q), (fun q => nomatch q)⟩
    | some d => exact ⟨fun q => by injection q with q; congr 1; omega, fun q => by cases q; rfl⟩
  have pa : ∀ j d, Kp430.pinAt p j = some d ↔ p.pins[j]? = some (some d) := by
    intro j d
    unfold Kp430.pinAt
    rw [List.getD_eq_getElem?_getD]
    cases p.pins[j]? with
    | none => simp
    | some o => simp
  rw [Bool.eq_iff_iff, List.any_eq_true, Bool.and_eq_true, decide_eq_true_eq, Bool.not_eq_true', decide_eq_false_iff_not, ov]
  constructor
  · rintro ⟨j, hj, h⟩
    rw [Bool.and_eq_true, bne_iff_ne, beq_iff_eq] at h
    have hj2 := (pa j c).mp h.2
    exact ⟨List.mem_of_getElem? hj2, fun q => h.1 (wf.pd j k c hj2 ((pa k c).mp q))⟩
  · rintro ⟨h1, h2⟩
    obtain ⟨j, hj, e⟩ := List.getElem_of_mem h1
    have hj2 : p.pins[j]? = some (some c) := by rw [List.getElem?_eq_getElem hj, e]
    refine ⟨j, List.mem_range.mpr (by rw [wf.pn] at hj; exact hj), ?_⟩
    rw [Bool.and_eq_true, bne_iff_ne, beq_iff_eq]
    exact ⟨fun q => h2 (by rw [← q]; exact (pa j c).mpr hj2), (pa j c).mpr hj2⟩
theorem pF0_no_is_pinned_elsewhere {w c q : Addr} {lm sp fa fl dv : Nat} {f n : Addr} : (pF0 w c q lm sp fa fl dv f n).lookup ("is_pinned_elsewhere" : Str) = none := (lk_past (by decide +kernel)).trans ((lk_past (by decide +kernel)).trans ((lk_past (by decide +kernel)).trans ((lk_past (by decide +kernel)).trans ((lk_past (by decide +kernel)).trans ((lk_past (by decide +kernel)).trans ((lk_past (by decide +kernel)).trans ((lk_past (by decide +kernel)).trans ((lk_past (by decide +kernel)).trans ((lk_past (by decide +kernel)).trans (rfl))))))))))
theorem pF0_no_relaxed {w c q : Addr} {lm sp fa fl dv : Nat} {f n : Addr} : (pF0 w c q lm sp fa fl dv f n).lookup ("relaxed" : Str) = none := (lk_past (by decide +kernel)).trans ((lk_past (by decide +kernel)).trans ((lk_past (by decide +kernel)).trans ((lk_past (by decide +kernel)).trans ((lk_past (by decide +kernel)).trans ((lk_past (by decide +kernel)).trans ((lk_past (by decide +kernel)).trans ((lk_past (by decide +kernel)).trans ((lk_past (by decide +kernel)).trans ((lk_past (by decide +kernel)).trans (rfl))))))))))
/-- pinned at another position -/
def pinElse (p : Page) (c k : Nat) : Bool := decide (some c ∈ p.pins) && !decide (oV (Kp430.pinAt p k) = nV c)
def rPinE (CC CP : Addr) : List V → Hp → V → Prop := fun vs H z => ∃ a p c k, vs = [.ref a, nV c, nV k] ∧ PageAt CC CP H a p ∧ Wf p ∧ k < p.weights.length ∧ z = .bl (pinElse p c k)
abbrev s_Page_is_pinned_elsewhere : Stmt := inClass (topS 97) 3
theorem sc_Page_is_pinned_elsewhere : FnScope ["self", "candidate", "position"] ["self", "candidate", "position"] (defScope s_Page_is_pinned_elsewhere) := ⟨rfl, rfl, rfl, by decide +kernel, rfl, by decide +kernel, by decide +kernel⟩
theorem ok_Page_is_pinned_elsewhere (T : Txt K mg CC CP CS) (F : MFunAt K CP "is_pinned_elsewhere" "Page.is_pinned_elsewhere" s_Page_is_pinned_elsewhere ["self", "candidate", "position"]) : MethAt P w K mg base 1 CP "is_pinned_elsewhere" ["self", "candidate", "position"] (spV (rPinE CC CP)) := by
  obtain ⟨f, fd, FF, hm, hb⟩ := F.ex
  refine ⟨f, fd, FF.ok sc_Page_is_pinned_elsewhere (fun vs H Q E h => ?_) (fun cdv A outer s H vs Q E hr h => ⟨_, (pss_one (ps_ret (pe_and (pe_cmpR (inK (K := K)) (pv 1) (fldK (K := K) (pv 0)) (by rfl)) (pe_one (pe_cmpR op_ne (pe_ix (ixL (K := K)) (fldK (K := K) (pv 0)) (pv 2) (fun _ _ => rfl)) (pv 1) (nomark _)))))), ?_⟩), hm, hb⟩
  · obtain ⟨z, ⟨_, _, _, _, rfl, _⟩, _⟩ := h
    rfl
  · obtain ⟨z, ⟨a, p, c, x, rfl, ⟨L, hp⟩, wf, hx, rfl⟩, k⟩ := h
    exact s_ret (ev_andV (ev_is (ev_op (ev_var rfl) (pg_pins T hp (ev_var rfl)) (rv_isL (sq_of hp.hp) rfl (flat_pins _))) (congrArg V.bl (inV_pins c p.pins))) fun _ => ev_op (pg_pin T hp wf hx (ev_var rfl) (ev_var rfl)) (ev_var rfl) (rv_ne (scal_on _ _))) fun H1 e1 => k H1 e1
end
end Ps
end

section
set_option maxRecDepth 100000
set_option maxHeartbeats 2000000
namespace Ps
open PySem PySem.Spec PyProof.Rows L2 Evl
open Kp430 (Page Candidate Quota)
section
variable {P : Program} {w : World} {K : PySem.W.Frag} {mg : Str → Option Value} {base : Heap} {CC CP CS : Addr} {σ : L2.St} {H Hs : Hp} {D : Ends} {a : Addr} {L : Lay} {p : Page} {tp tv te to ti : TE} {Q : VK}
/-! ### pairs -/
def spU (R : List V → Hp → List V → Prop) : Sp := fun vs H Q _ => ∃ xs, R vs H xs ∧ ∀ q H2, H q = none → Ex H H2 → H2 q = some (.tup xs) → Q (.ref q) H2
theorem eu_cd {R : List V → Hp → List V → Prop} {E : XK} {tz : TA} {vs xs : List V} (h : EvA tz σ H vs) (r : ∀ H1, Ex H H1 → R vs H1 xs) : EvU (tCall (spU R) [] E tz) σ H xs := fun H1 e Q q => h H1 e _ fun H2 e2 => by
  show spU R (vs ++ []) H2 Q E
  rw [List.append_nil]
  exact ⟨xs, r H2 (e.trans e2), fun t H3 ht e3 h3 => q t H3 (fresh_back e2 ht) (e2.trans e3) h3⟩
def rPair : List V → Hp → List V → Prop := fun vs _ xs => ∃ x y : Nat, vs = [nV x, nV y] ∧ xs = [nV (Kp430.orderPair x y).1, nV (Kp430.orderPair x y).2]
abbrev s_ordered_pair : Stmt := topS 105
theorem sc_ordered_pair : FnScope ["first", "second"] ["first", "second"] (defScope s_ordered_pair) := ⟨rfl, rfl, rfl, by decide +kernel, rfl, by decide +kernel, by decide +kernel⟩
theorem ok_ordered_pair (T : Txt K mg CC CP CS) (F : FunAt K mg "ordered_pair" s_ordered_pair ["first", "second"]) : DefAt P w K mg base 1 "ordered_pair" ["first", "second"] (spU rPair) := by
  obtain ⟨f, fd, FF, hm, hb⟩ := F.ex
  refine ⟨f, fd, FF.ok sc_ordered_pair (fun vs H Q E h => ?_) (fun cdv A outer s H vs Q E hr h => ⟨_, (pss_one (ps_ret (pe_tup (pa_cons (pe_callB min2K (by rfl) T.min (by decide +kernel) (pa_cons (pv 0) (pa_cons (pv 1) pa_nil))) (pa_cons (pe_callB max2K (by rfl) T.max (by decide +kernel) (pa_cons (pv 0) (pa_cons (pv 1) pa_nil))) pa_nil))))), ?_⟩), hm, FF.kp, hb⟩
  · obtain ⟨z, ⟨_, _, rfl, _⟩, _⟩ := h
    rfl
  · obtain ⟨z, ⟨x, y, rfl, rfl⟩, k⟩ := h
    refine s_retU (eu_tup (ea_cons (ev_is (ev_min2 (ev_var rfl) (ev_var rfl)) ?_) (ea_cons (ev_is (ev_max2 (ev_var rfl) (ev_var rfl)) ?_) ea_nil)) (by show 2 ≤ 100000; decide)) fun q H1 hq e1 h1 => k q H1 hq e1 h1
    · show V.int _ = V.int ((min x y : Nat) : Int)
      congr 1
      split <;> omega
    · show V.int _ = V.int ((max x y : Nat) : Int)
      congr 1
      split <;> omega
/-- a pair of numbers as data -/
def dP (x : Nat × Nat) : PyData := .tuple [.int x.1, .int x.2]
theorem dp_pair {q : Addr} {x : Nat × Nat} (h : H q = some (.tup [nV x.1, nV x.2])) : Dp K H (.ref q) (dP x) := .tup (st_of h) (.cons (.int _) (.cons (.int _) .nil))
theorem dp_fb (h : PageL CC CP H a L p) : DpAll K H (L.fs.map V.ref) (p.forbidden.map dP) := by
  have key : ∀ (fs : List Addr) (ks : List (Nat × Nat)), fs.length = ks.length → (∀ (i : Nat) (q : Addr) (k : Nat × Nat), fs[i]? = some q → ks[i]? = some k → H q = some (.tup [nV k.1, nV k.2])) → DpAll K H (fs.map V.ref) (ks.map dP) := by
    intro fs
    induction fs with
    | nil => intro ks hl _; cases ks with
      | nil => exact .nil
      | cons k ks => cases hl
    | cons q fs ih => intro ks hl hh; cases ks with
      | nil => cases hl
      | cons k ks => exact .cons (dp_pair (hh 0 q k rfl rfl)) (ih ks (by simpa using hl) fun i q k h1 h2 => hh (i + 1) q k h1 h2)
  exact key _ _ h.hfl h.hfa
theorem lay_all (l : List (Nat × Nat)) : PyData.canLayAll0 (l.map dP) = true := by
  induction l with
  | nil => rfl
  | cons x l ih => rw [List.map_cons]; show (true && PyData.canLayAll0 (l.map dP)) = true; rw [ih]; rfl
theorem plain_all (l : List (Nat × Nat)) : PyData.plainAll (l.map dP) = true := by
  induction l with
  | nil => rfl
  | cons x l ih => rw [List.map_cons]; show (true && PyData.plainAll (l.map dP)) = true; rw [ih]; rfl
theorem depth_all (l : List (Nat × Nat)) : PyData.depthAll (l.map dP) ≤ 1 := by
  induction l with
  | nil => exact Nat.zero_le _
  | cons x l ih => rw [List.map_cons]; show max 1 (PyData.depthAll (l.map dP)) ≤ 1; omega
theorem eqv_pair (x y : Nat × Nat) : PyData.eqv (dP x) (dP y) = (x == y) := by
  have e : PyData.eqv (dP x) (dP y) = (((x.1 : Int) == (y.1 : Int)) && (((x.2 : Int) == (y.2 : Int)) && true)) := rfl
  rw [e, Bool.and_true, Bool.eq_iff_iff, Bool.and_eq_true, beq_iff_eq, beq_iff_eq, beq_iff_eq, Prod.ext_iff]
  omega
theorem any_pair (l : List (Nat × Nat)) (x : Nat × Nat) : ((l.map dP).any fun z => PyData.eqv z (dP x)) = l.contains x := by
  rw [List.any_map, List.contains_eq_any_beq]
  congr 1
  funext y
  show PyData.eqv (dP y) (dP x) = _
  rw [eqv_pair, Bool.eq_iff_iff, beq_iff_eq, beq_iff_eq]
  exact eq_comm
theorem rv_inD (h : PageL CC CP H a L p) {q : Addr} {x : Nat × Nat} (hq : H q = some (.tup [nV x.1, nV x.2])) : RV (rInD K) (.ref q) (.ref L.af) H (.bl (p.forbidden.contains x)) := fun H1 e Q k => by
  have h1 := h.mono e
  refine ⟨dP x, p.forbidden.map dP, dp_pair (e _ _ hq), .lst (sq_of h1.hf) (dp_fb h1), rfl, ?_, ?_⟩
  · show ((PyData.list _).canLay0 && decide ((PyData.list _).depth ≤ 64)) = true
    rw [Bool.and_eq_true]
    refine ⟨lay_all _, decide_eq_true ?_⟩
    have := depth_all p.forbidden
    show PyData.depthAll (p.forbidden.map dP) + 1 ≤ 64
    omega
  · rw [any_pair]
    exact k H1 (Ex.refl H1)
theorem rv_notInD (h : PageL CC CP H a L p) {q : Addr} {x : Nat × Nat} (hq : H q = some (.tup [nV x.1, nV x.2])) : RV (rNotInD K) (.ref q) (.ref L.af) H (.bl (!p.forbidden.contains x)) := fun H1 e Q k => by
  have h1 := h.mono e
  refine ⟨dP x, p.forbidden.map dP, dp_pair (e _ _ hq), .lst (sq_of h1.hf) (dp_fb h1), rfl, ?_, ?_⟩
  · show ((PyData.list _).canLay0 && decide ((PyData.list _).depth ≤ 64)) = true
    rw [Bool.and_eq_true]
    refine ⟨lay_all _, decide_eq_true ?_⟩
    have := depth_all p.forbidden
    show PyData.depthAll (p.forbidden.map dP) + 1 ≤ 64
    omega
  · rw [any_pair]
    exact k H1 (Ex.refl H1)
def cPairs (mk : Nat → Nat → Kp430.Call) : List V → Hp → Kp430.Call → Prop := fun rest _ c => ∃ x y, rest = [nV x, nV y] ∧ c = mk x y
theorem fb_len {p : Page} (wf : Wf p) : p.forbidden.length ≤ 81 := by
  have h : p.forbidden ⊆ (List.range 9).flatMap fun i => (List.range 9).map fun j => (i, j) := by
    intro x hx
    have h1 := wf.fb x hx
    have h2 := wf.cn
    rw [List.mem_flatMap]
    exact ⟨x.1, List.mem_range.mpr (by omega), List.mem_map.mpr ⟨x.2, List.mem_range.mpr (by omega), rfl⟩⟩
  exact Nat.le_trans (List.Nodup.length_le_of_subset wf.fd h) (by decide)
theorem neither (x y : Bool) : (!x || !y) = true ↔ (x = false ∨ y = false) := by
  cases x <;> cases y <;> simp
abbrev s_forbid : Stmt := topS 106
theorem sc_forbid : FnScope ["page", "first", "second", "pair"] ["page", "first", "second"] (defScope s_forbid) := ⟨rfl, rfl, rfl, by decide +kernel, rfl, by decide +kernel, by decide +kernel⟩
theorem ok_forbid (T : Txt K mg CC CP CS) (F : FunAt K mg "forbid" s_forbid ["page", "first", "second"]) (D_Page_has_candidate : MethAt P w K mg base 1 CP "has_candidate" ["self", "candidate"] (spV (rHasC CC CP))) (D_ordered_pair : DefAt P w K mg base 1 "ordered_pair" ["first", "second"] (spU rPair)) :
    DefAt P w K mg base 2 "forbid" ["page", "first", "second"] (spM CC CP (cPairs .forbid)) := by
  obtain ⟨f, fd, FF, hm, hb⟩ := F.ex
  refine ⟨f, fd, FF.ok sc_forbid (fun vs H Q E h => ?_) (fun cdv A outer s H vs Q E hr h => ⟨_, (pss_cons (ps_if (PW.pt (pw_or (pt_not (pt_val (pe_mt D_Page_has_candidate T.cPage (hr.mono (by decide)) pass0 (pv 0) (pa_cons (pv 1) pa_nil)))) (pw_or1 (pt_not (pt_val (pe_mt D_Page_has_candidate T.cPage (hr.mono (by decide)) pass0 (pv 0) (pa_cons (pv 2) pa_nil))))))) (pss_one (ps_ret (pe_lst (pa_cons (pe_gi T.NO_CANDIDATE) pa_nil)))) pss_nil)
      (pss_cons (ps_if (pt_cmpR op_eq (pv 1) (pv 2) (nomark _)) (pss_one (ps_ret (pe_lst (pa_cons (pe_gi T.OUTSIDE_LIMITS) pa_nil)))) pss_nil)
      (pss_cons (ps_set (i := 3) sc_forbid.nd rfl (Or.inl rfl) (pe_cd D_ordered_pair (hr.mono (by decide)) pass0 (pa_cons (pv 1) (pa_cons (pv 2) pa_nil))))
      (pss_cons (ps_if (pt_cmpR (inDK (K := K) hr) (pv 3) (fldK (K := K) (pv 0)) (by rfl)) (pss_one (ps_ret (pe_lst (pa_cons (pe_gi T.ALREADY_THERE) pa_nil)))) pss_nil)
      (pss_cons (ps_expr (bmK (K := K) PySem.F.plainAttrs_list PySem.F.slot_list_append PySem.F.type_list_append mt_append (fldK (K := K) (pv 0)) (pa_cons (pv 3) pa_nil)))
      (pss_one (ps_ret (pe_lst (pa_cons (pe_callB (lenK (K := K)) (by rfl) T.len (by decide +kernel) (pa_cons (fldK (K := K) (pv 0)) pa_nil)) pa_nil))))))))), ?_⟩), hm, FF.kp, hb⟩
  · obtain ⟨_, _, _, _, _, rfl, _, _, ⟨_, _, rfl, _⟩, _⟩ := h
    rfl
  · obtain ⟨Hs, a, p, _, _, rfl, ⟨L, hp, A⟩, wf, ⟨x, y, rfl, rfl⟩, k⟩ := h
    have hst : Kp430.step (some p) (.forbid x y) = if Kp430.hasCandidate p x = false ∨ Kp430.hasCandidate p y = false then (some p, Kp430.single (-2)) else if x = y then (some p, Kp430.single (-22)) else if p.forbidden.contains (Kp430.orderPair x y) then (some p, Kp430.single (-17)) else
      (some { p with forbidden := p.forbidden ++ [Kp430.orderPair x y] }, Kp430.single (p.forbidden.length + 1 : Nat)) := rfl
    rw [hst] at k
    refine q_when (et_or (et_not (et_B (ev_hasC T hp (ev_var rfl) (ev_var rfl)))) fun _ => et_not (et_B (ev_hasC T hp (ev_var rfl) (ev_var rfl)))) (fun hb H1 e1 => ?_) (fun hb H1 e1 => ?_)
    · rw [neither] at hb
      rw [if_pos hb] at k
      exact ret_err ⟨L, hp.mono e1, A.mono e1⟩ ev_c k
    · rw [if_neg (by rw [← neither, hb]; decide)] at k
      refine q_when (et_test (ev_op (ev_var rfl) (ev_var rfl) (rv_eq rfl))) (fun hb2 H2 e2 => ?_) (fun hb2 H2 e2 => ?_)
      · rw [nv_eq, decide_eq_true_eq] at hb2
        rw [if_pos hb2] at k
        exact ret_err ⟨L, hp.mono (e1.trans e2), A.mono (e1.trans e2)⟩ ev_c k
      · rw [nv_eq, decide_eq_false_iff_not] at hb2
        rw [if_neg hb2] at k
        refine q_asgU (eu_cd (ea_cons (ev_var rfl) (ea_cons (ev_var rfl) ea_nil)) fun H3 e3 => ⟨x, y, rfl, rfl⟩) fun q H3 hq e3 h3 => ?_
        have e13 := (e1.trans e2).trans e3
        refine q_when (et_test (ev_op (ev_var rfl) (pg_forbidden T (hp.mono e13) (ev_var rfl)) (rv_inD (x := Kp430.orderPair x y) (hp.mono e13) h3))) (fun hb3 H4 e4 => ?_) (fun hb3 H4 e4 => ?_)
        · rw [if_pos hb3] at k
          exact ret_err ⟨L, hp.mono (e13.trans e4), A.mono (e13.trans e4)⟩ ev_c k
        · rw [if_neg (by rw [hb3]; decide)] at k
          have hp4 := hp.mono (e13.trans e4)
          refine q_app hp4.hf (pg_forbidden T hp4 (ev_var rfl)) (ev_var rfl) (by rw [List.length_map, hp4.hfl]; have := fb_len wf; omega) fun H5 e5 => ?_
          have e15 := (e13.trans e4).trans e5
          have hI := pl_forbid (k := Kp430.orderPair x y) (hp.mono e15) (A.mono e15) ((e4.trans e5) _ _ h3)
          obtain ⟨L6, hp6, A6⟩ := hI
          refine ret_one ⟨L6, hp6, A6⟩ (ev_is (ev_lenS (es_of (pg_forbidden T hp6 (ev_var rfl)) (sq_of hp6.hf))) ?_) k
          rw [List.length_map, hp6.hfl, List.length_append]
          rfl
theorem filter_erase {α : Type} [BEq α] [LawfulBEq α] (x : α) : ∀ (l : List α) (j : Nat), l.Nodup → l[j]? = some x → (l.filter fun y => y != x) = l.eraseIdx j
  | [], j, _, h => by simp at h
  | a :: l, 0, hn, h => by
    have e : a = x := Option.some.inj h
    subst e
    rw [List.nodup_cons] at hn
    rw [List.filter_cons, if_neg (by simp), List.eraseIdx_cons_zero]
    exact List.filter_eq_self.mpr fun y hy => by
      have : ¬ y = a := fun q => hn.1 (q ▸ hy)
      simp [this]
  | a :: l, j + 1, hn, h => by
    rw [List.nodup_cons] at hn
    have h : l[j]? = some x := h
    have : a ≠ x := fun e => hn.1 (e ▸ List.mem_of_getElem? h)
    rw [List.filter_cons, if_pos (by simp [this]), List.eraseIdx_cons_succ, filter_erase x l j hn.2 h]
theorem place_pair {l : List (Nat × Nat)} {x : Nat × Nat} (h : x ∈ l) : ∃ j, SeqAt.dataPlace (l.map dP) (dP x) = some j ∧ l[j]? = some x := by
  unfold SeqAt.dataPlace
  cases e : (l.map dP).findIdx? fun y => PyData.eqv y (dP x) with
  | none =>
    rw [List.findIdx?_eq_none_iff] at e
    have := e (dP x) (List.mem_map.mpr ⟨x, h, rfl⟩)
    rw [eqv_pair, beq_self_eq_true] at this
    cases this
  | some j =>
    refine ⟨j, rfl, ?_⟩
    obtain ⟨h1, h2, _⟩ := List.findIdx?_eq_some_iff_getElem.mp e
    rw [List.getElem_map, eqv_pair, beq_iff_eq] at h2
    rw [List.length_map] at h1
    rw [List.getElem?_eq_getElem h1, h2]
theorem q_remT {tz : TS} {l q : Addr} {xs : List V} {d : PyData} {ds : List PyData} {j : Nat} (hl : H l = some (.lst xs)) (ho : Ev to σ H (.ref l)) (he : Ev te σ H (.ref q)) (h1 : DpAll K H xs ds) (h2 : Dp K H (.ref q) d) (h1' : ∀ H1, Ex H H1 → DpAll K H1 xs ds) (h2' : ∀ H1, Ex H H1 → Dp K H1 (.ref q) d)
    (hp1 : PyData.plainAll ds = true) (hp2 : d.plain = true) (hd : d.depth ≤ 60) (hj : SeqAt.dataPlace ds d = some j) (k : ∀ H1, Ex H H1 → tz D σ (upd H1 l (.lst (xs.eraseIdx j)))) : tSeq (tDrop (tBM K "list" (rRemT K) to (tCons te tNil))) tz D σ H :=
  ho H (Ex.refl H) _ fun H1 e1 => ⟨Or.inl ⟨rfl, xs, sq_of (e1 _ _ hl)⟩, he H1 e1 _ fun H2 e2 => ⟨l, xs, .ref q, d, ds, j, rfl, rfl, (e1.trans e2) _ _ hl, h1' _ (e1.trans e2), h2' _ (e1.trans e2), hp1, hp2, hd, hj, k H2 (e1.trans e2)⟩⟩
abbrev s_allow : Stmt := topS 107
theorem sc_allow : FnScope ["page", "first", "second", "pair"] ["page", "first", "second"] (defScope s_allow) := ⟨rfl, rfl, rfl, by decide +kernel, rfl, by decide +kernel, by decide +kernel⟩
theorem ok_allow (T : Txt K mg CC CP CS) (F : FunAt K mg "allow" s_allow ["page", "first", "second"]) (D_Page_has_candidate : MethAt P w K mg base 1 CP "has_candidate" ["self", "candidate"] (spV (rHasC CC CP))) (D_ordered_pair : DefAt P w K mg base 1 "ordered_pair" ["first", "second"] (spU rPair)) :
    DefAt P w K mg base 2 "allow" ["page", "first", "second"] (spM CC CP (cPairs .allow)) := by
  obtain ⟨f, fd, FF, hm, hb⟩ := F.ex
  refine ⟨f, fd, FF.ok sc_allow (fun vs H Q E h => ?_) (fun cdv A outer s H vs Q E hr h => ⟨_, (pss_cons (ps_if (PW.pt (pw_or (pt_not (pt_val (pe_mt D_Page_has_candidate T.cPage (hr.mono (by decide)) pass0 (pv 0) (pa_cons (pv 1) pa_nil)))) (pw_or1 (pt_not (pt_val (pe_mt D_Page_has_candidate T.cPage (hr.mono (by decide)) pass0 (pv 0) (pa_cons (pv 2) pa_nil))))))) (pss_one (ps_ret (pe_lst (pa_cons (pe_gi T.NO_CANDIDATE) pa_nil)))) pss_nil)
      (pss_cons (ps_set (i := 3) sc_allow.nd rfl (Or.inl rfl) (pe_cd D_ordered_pair (hr.mono (by decide)) pass0 (pa_cons (pv 1) (pa_cons (pv 2) pa_nil))))
      (pss_cons (ps_if (pt_cmpR (notInDK (K := K) hr) (pv 3) (fldK (K := K) (pv 0)) (by rfl)) (pss_one (ps_ret (pe_lst (pa_cons (pe_gi T.NOT_THERE) pa_nil)))) pss_nil)
      (pss_cons (ps_expr (bmK (K := K) PySem.F.plainAttrs_list PySem.F.slot_list_remove PySem.F.type_list_remove (removeT (K := K) (hu65 hr)) (fldK (K := K) (pv 0)) (pa_cons (pv 3) pa_nil)))
      (pss_one (ps_ret (pe_lst (pa_cons (pe_callB (lenK (K := K)) (by rfl) T.len (by decide +kernel) (pa_cons (fldK (K := K) (pv 0)) pa_nil)) pa_nil)))))))), ?_⟩), hm, FF.kp, hb⟩
  · obtain ⟨_, _, _, _, _, rfl, _, _, ⟨_, _, rfl, _⟩, _⟩ := h
    rfl
  · obtain ⟨Hs, a, p, _, _, rfl, ⟨L, hp, A⟩, wf, ⟨x, y, rfl, rfl⟩, k⟩ := h
    have hst : Kp430.step (some p) (.allow x y) = if Kp430.hasCandidate p x = false ∨ Kp430.hasCandidate p y = false then (some p, Kp430.single (-2)) else if p.forbidden.contains (Kp430.orderPair x y) then
      (some { p with forbidden := p.forbidden.filter fun z => z != Kp430.orderPair x y }, Kp430.single (p.forbidden.length - 1 : Nat)) else (some p, Kp430.single (-33)) := rfl
    rw [hst] at k
    refine q_when (et_or (et_not (et_B (ev_hasC T hp (ev_var rfl) (ev_var rfl)))) fun _ => et_not (et_B (ev_hasC T hp (ev_var rfl) (ev_var rfl)))) (fun hb H1 e1 => ?_) (fun hb H1 e1 => ?_)
    · rw [neither] at hb
      rw [if_pos hb] at k
      exact ret_err ⟨L, hp.mono e1, A.mono e1⟩ ev_c k
    · rw [if_neg (by rw [← neither, hb]; decide)] at k
      refine q_asgU (eu_cd (ea_cons (ev_var rfl) (ea_cons (ev_var rfl) ea_nil)) fun H3 e3 => ⟨x, y, rfl, rfl⟩) fun q H3 hq e3 h3 => ?_
      have e13 := e1.trans e3
      refine q_when (et_test (ev_op (ev_var rfl) (pg_forbidden T (hp.mono e13) (ev_var rfl)) (rv_notInD (x := Kp430.orderPair x y) (hp.mono e13) h3))) (fun hb3 H4 e4 => ?_) (fun hb3 H4 e4 => ?_)
      · rw [Bool.not_eq_true'] at hb3
        rw [if_neg (by rw [hb3]; decide)] at k
        exact ret_err ⟨L, hp.mono (e13.trans e4), A.mono (e13.trans e4)⟩ ev_c k
      · rw [Bool.not_eq_false'] at hb3
        rw [if_pos hb3] at k
        have hp4 := hp.mono (e13.trans e4)
        have hmem : Kp430.orderPair x y ∈ p.forbidden := by simpa using hb3
        obtain ⟨j, hj, hjx⟩ := place_pair hmem
        refine q_remT hp4.hf (pg_forbidden T hp4 (ev_var rfl)) (ev_var rfl) (dp_fb hp4) (dp_pair (e4 _ _ h3)) (fun H5 e5 => dp_fb (hp4.mono e5)) (fun H5 e5 => dp_pair ((e4.trans e5) _ _ h3)) (plain_all _) rfl (by show 1 ≤ 60; decide) hj fun H5 e5 => ?_
        have e15 := (e13.trans e4).trans e5
        have hI := pl_allow (hp.mono e15) (A.mono e15) j
        rw [← filter_erase _ _ _ wf.fd hjx] at hI
        obtain ⟨L6, hp6, A6⟩ := hI
        refine ret_one ⟨L6, hp6, A6⟩ (ev_is (ev_lenS (es_of (pg_forbidden T hp6 (ev_var rfl)) (sq_of hp6.hf))) ?_) k
        rw [List.length_map, hp6.hfl]
        show V.int (((p.forbidden.filter fun z => z != Kp430.orderPair x y).length : Nat) : Int) = _
        have hjl := (List.getElem?_eq_some_iff.mp hjx).1
        rw [filter_erase _ _ _ wf.fd hjx, List.length_eraseIdx, if_pos hjl]
/-! ### pin -/
def cPin : List V → Hp → Kp430.Call → Prop := fun rest _ c => ∃ x y, rest = [nV x, nV y] ∧ c = .pin x y
abbrev s_pin : Stmt := topS 108
theorem sc_pin : FnScope ["page", "position", "candidate"] ["page", "position", "candidate"] (defScope s_pin) := ⟨rfl, rfl, rfl, by decide +kernel, rfl, by decide +kernel, by decide +kernel⟩
theorem ok_pin (T : Txt K mg CC CP CS) (F : FunAt K mg "pin" s_pin ["page", "position", "candidate"]) (D_Page_has_candidate : MethAt P w K mg base 1 CP "has_candidate" ["self", "candidate"] (spV (rHasC CC CP))) (D_Page_has_position : MethAt P w K mg base 1 CP "has_position" ["self", "position"] (spV (rHasP CC CP)))
    (D_Page_is_pinned_elsewhere : MethAt P w K mg base 1 CP "is_pinned_elsewhere" ["self", "candidate", "position"] (spV (rPinE CC CP))) :
    DefAt P w K mg base 2 "pin" ["page", "position", "candidate"] (spM CC CP cPin) := by
  obtain ⟨f, fd, FF, hm, hb⟩ := F.ex
  refine ⟨f, fd, FF.ok sc_pin (fun vs H Q E h => ?_) (fun cdv A outer s H vs Q E hr h => ⟨_, (pss_cons (ps_if (pt_not (pt_val (pe_mt D_Page_has_candidate T.cPage (hr.mono (by decide)) pass0 (pv 0) (pa_cons (pv 2) pa_nil)))) (pss_one (ps_ret (pe_lst (pa_cons (pe_gi T.NO_CANDIDATE) pa_nil)))) pss_nil)
      (pss_cons (ps_if (pt_not (pt_val (pe_mt D_Page_has_position T.cPage (hr.mono (by decide)) pass0 (pv 0) (pa_cons (pv 1) pa_nil)))) (pss_one (ps_ret (pe_lst (pa_cons (pe_gi T.OUTSIDE_LIMITS) pa_nil)))) pss_nil)
      (pss_cons (ps_if (pt_val (pe_mt D_Page_is_pinned_elsewhere T.cPage (hr.mono (by decide)) pass0 (pv 0) (pa_cons (pv 2) (pa_cons (pv 1) pa_nil)))) (pss_one (ps_ret (pe_lst (pa_cons (pe_gi T.ALREADY_THERE) pa_nil)))) pss_nil)
      (pss_cons (ps_asg (pv 2) (pg_sub (fldK (K := K) (pv 0)) (pv 1) set_list))
      (pss_one (ps_ret (pe_lst (pa_cons pe_int pa_nil)))))))), ?_⟩), hm, FF.kp, hb⟩
  · obtain ⟨_, _, _, _, _, rfl, _, _, ⟨_, _, rfl, _⟩, _⟩ := h
    rfl
  · obtain ⟨Hs, a, p, _, _, rfl, ⟨L, hp, A⟩, wf, ⟨x, c, rfl, rfl⟩, k⟩ := h
    have hst : Kp430.step (some p) (.pin x c) = if Kp430.hasCandidate p c = false then (some p, Kp430.single (-2)) else if p.weights.length ≤ x then (some p, Kp430.single (-22)) else if (List.range (Kp430.positions p)).any fun j => j != x && Kp430.pinAt p j == some c then (some p, Kp430.single (-17)) else
      (some { p with pins := p.pins.set x (some c) }, Kp430.single 0) := rfl
    rw [hst] at k
    refine q_when (et_not (et_B (ev_hasC T hp (ev_var rfl) (ev_var rfl)))) (fun hb H1 e1 => ?_) (fun hb H1 e1 => ?_)
    · rw [Bool.not_eq_true'] at hb
      rw [if_pos hb] at k
      exact ret_err ⟨L, hp.mono e1, A.mono e1⟩ ev_c k
    · rw [Bool.not_eq_false'] at hb
      rw [if_neg (by rw [hb]; decide)] at k
      refine q_when (et_not (et_B (ev_hasP T (hp.mono e1) (ev_var rfl) (ev_var rfl)))) (fun hb2 H2 e2 => ?_) (fun hb2 H2 e2 => ?_)
      · rw [Bool.not_eq_true'] at hb2
        rw [if_pos (by have := of_decide_eq_false hb2; omega)] at k
        exact ret_err ⟨L, hp.mono (e1.trans e2), A.mono (e1.trans e2)⟩ ev_c k
      · rw [Bool.not_eq_false'] at hb2
        have hx : x < p.weights.length := of_decide_eq_true hb2
        rw [if_neg (by omega)] at k
        have e12 := e1.trans e2
        have hp2 := hp.mono e12
        refine q_when (et_B (ev_mt (ev_var rfl) hp2.ins pF0_no_is_pinned_elsewhere (ea_cons (ev_var rfl) (ea_cons (ev_var rfl) ea_nil)) fun H3 e3 => ⟨a, p, c, x, rfl, ⟨L, hp2.mono e3⟩, wf, hx, rfl⟩)) (fun hb3 H3 e3 => ?_) (fun hb3 H3 e3 => ?_)
        · rw [show pinElse p c x = _ from (pin_clash wf hx).symm] at hb3
          rw [if_pos hb3] at k
          exact ret_err ⟨L, hp.mono (e12.trans e3), A.mono (e12.trans e3)⟩ ev_c k
        · rw [show pinElse p c x = _ from (pin_clash wf hx).symm] at hb3
          rw [if_neg (by rw [hb3]; decide)] at k
          have hp3 := hp2.mono e3
          refine q_setV hp3.hp (ev_var rfl) (pg_pins T hp3 (ev_var rfl)) (ev_var rfl) (by rw [List.length_map, wf.pn]; exact hx) fun H4 e4 => ?_
          have e14 := (e12.trans e3).trans e4
          have hI := pl_pins (hp.mono e14) (A.mono e14) (p.pins.set x (some c))
          rw [List.map_set] at hI
          exact ret_one hI ev_c k
end
end Ps
end

section
set_option maxRecDepth 100000
set_option maxHeartbeats 2000000
namespace Ps
open PySem PySem.Spec PyProof.Rows L2 Evl
open Kp430 (Page Candidate Quota)
section
variable {P : Program} {w : World} {K : PySem.W.Frag} {mg : Str → Option Value} {base : Heap} {CC CP CS : Addr} {σ : L2.St} {H Hs : Hp} {D : Ends} {a : Addr} {L : Lay} {p : Page} {tp tv te to ti : TE} {Q : VK}
/-- xs.append(C(..)): a new candidate at the end -/
theorem q_appC {tz : TS} {l : Addr} {xs : List V} {ta : TA} {s g k c : Nat} {t : Addr} (hl : H l = some (.lst xs)) (ho : Ev to σ H (.ref l)) (ha : EvA ta σ H [nV s, nV g, nV k, nV c, .ref t]) (hz : xs.length < 100000)
    (q : ∀ x dx H1, H x = none → Ex H H1 → H1 x = some (.ins CC dx (cF0 s g k c t)) → tz D σ (upd H1 l (.lst (xs ++ [.ref x])))) :
    tSeq (tDrop (tBM K "list" rAppend to (tCons (tMake CC (spCInit CC) [] E0 ta) tNil))) tz D σ H :=
  ho H (Ex.refl H) _ fun H1 e1 => ⟨Or.inl ⟨rfl, xs, sq_of (e1 _ _ hl)⟩, ha H1 e1 _ fun H2 e2 => fun x dx nx nd ne => by
    refine ⟨x, dx, s, g, k, c, t, rfl, upd_same, fun H3 h3 b3 => ⟨rfl, ?_⟩⟩
    have e23 : Ex H2 H3 := fun b o hb => b3 b o (by rw [upd_ne (ne_of_none hb nx), upd_ne (ne_of_none hb nd)]; exact hb) (ne_of_none hb nx)
    have e13 := (e1.trans e2).trans e23
    exact ⟨l, xs, .ref x, rfl, rfl, e13 _ _ hl, sz_lt hz, q x dx H3 (fresh_back (e1.trans e2) nx) e13 h3⟩⟩
def cAdd : List V → Hp → Kp430.Call → Prop := fun rest Hs c => ∃ s g k x l ns, rest = [nV s, nV g, nV k, nV x, .ref l] ∧ src Hs l = some (.lst (ns.map nV)) ∧ ns.length ≤ 12 ∧ c = .addCandidate s g k x ns
abbrev s_add_candidate : Stmt := topS 99
theorem sc_add_candidate : FnScope ["page", "score", "group", "creator", "age", "topics"] ["page", "score", "group", "creator", "age", "topics"] (defScope s_add_candidate) := ⟨rfl, rfl, rfl, by decide +kernel, rfl, by decide +kernel, by decide +kernel⟩
theorem ok_add_candidate (T : Txt K mg CC CP CS) (F : FunAt K mg "add_candidate" s_add_candidate ["page", "score", "group", "creator", "age", "topics"]) (D_candidate_fits : DefAt P w K mg base 2 "candidate_fits" ["score", "group", "creator", "age", "topics"] (spV (rCandFits K)))
    (D_Candidate : MakeAt P w K mg base 1 CC ["self", "score", "group", "creator", "age", "topics"] (spCInit CC)) : DefAt P w K mg base 3 "add_candidate" ["page", "score", "group", "creator", "age", "topics"] (spM CC CP cAdd) := by
  obtain ⟨f, fd, FF, hm, hb⟩ := F.ex
  refine ⟨f, fd, FF.ok sc_add_candidate (fun vs H Q E h => ?_) (fun cdv A outer s H vs Q E hr h => ⟨_, (pss_cons (ps_if (pt_not (pt_val (pe_cd D_candidate_fits (hr.mono (by decide)) pass0 (pa_cons (pv 1) (pa_cons (pv 2) (pa_cons (pv 3) (pa_cons (pv 4) (pa_cons (pv 5) pa_nil)))))))) (pss_one (ps_ret (pe_lst (pa_cons (pe_gi T.OUTSIDE_LIMITS) pa_nil)))) pss_nil)
      (pss_cons (ps_if (pt_cmpR op_eq (pe_callB (lenK (K := K)) (by rfl) T.len (by decide +kernel) (pa_cons (fldK (K := K) (pv 0)) pa_nil)) (pe_gi T.MOST_CANDIDATES) (nomark _)) (pss_one (ps_ret (pe_lst (pa_cons (pe_gi T.TOO_MANY_CANDIDATES) pa_nil)))) pss_nil)
      (pss_cons (ps_expr (bmK (K := K) PySem.F.plainAttrs_list PySem.F.slot_list_append PySem.F.type_list_append mt_append (fldK (K := K) (pv 0)) (pa_cons (pe_mk D_Candidate T.gCandidate (hr.mono (by decide)) pass0 (pa_cons (pv 1) (pa_cons (pv 2) (pa_cons (pv 3) (pa_cons (pv 4) (pa_cons (pv 5) pa_nil)))))) pa_nil)))
      (pss_one (ps_ret (pe_lst (pa_cons (pe_op op_sub (pe_callB (lenK (K := K)) (by rfl) T.len (by decide +kernel) (pa_cons (fldK (K := K) (pv 0)) pa_nil)) pe_int) pa_nil))))))), ?_⟩), hm, FF.kp, hb⟩
  · obtain ⟨_, _, _, _, _, rfl, _, _, ⟨_, _, _, _, _, _, rfl, _⟩, _⟩ := h
    rfl
  · obtain ⟨Hs, a, p, _, _, rfl, ⟨L, hp, A⟩, wf, ⟨s, g, c, x, l, ns, rfl, hl, h12, rfl⟩, k⟩ := h
    have hst : Kp430.step (some p) (.addCandidate s g c x ns) = if (decide (s ≤ 10000) && decide (g < Kp430.groupCount) && decide (c ≤ 1000) && decide (x ≤ 10000) && Kp430.validTopics ns) = false then (some p, Kp430.single (-22)) else
      if Kp430.maxCandidates ≤ p.candidates.length then (some p, Kp430.single (-28)) else (some { p with candidates := p.candidates ++ [⟨s, g, c, x, ns⟩] }, Kp430.single (p.candidates.length : Nat)) := rfl
    rw [hst] at k
    have hlH : H l = some (.lst (ns.map nV)) := A.ex _ _ (src_ex _ _ hl)
    refine q_when (et_not (et_B (ev_cd (z := .bl (candFits s g c x ns)) (ea_cons (ev_var rfl) (ea_cons (ev_var rfl) (ea_cons (ev_var rfl) (ea_cons (ev_var rfl) (ea_cons (ev_var rfl) ea_nil))))) fun H1 e1 => ⟨s, g, c, x, l, ns, rfl, sq_of (e1 _ _ hlH), h12, rfl⟩))) (fun hb H1 e1 => ?_) (fun hb H1 e1 => ?_)
    · rw [Bool.not_eq_true'] at hb
      rw [if_pos (show (decide (s ≤ 10000) && decide (g < Kp430.groupCount) && decide (c ≤ 1000) && decide (x ≤ 10000) && Kp430.validTopics ns) = false from hb)] at k
      exact ret_err ⟨L, hp.mono e1, A.mono e1⟩ ev_c k
    · rw [Bool.not_eq_false'] at hb
      have hb' : ¬ (decide (s ≤ 10000) && decide (g < Kp430.groupCount) && decide (c ≤ 1000) && decide (x ≤ 10000) && Kp430.validTopics ns) = false := by
        rw [show (decide (s ≤ 10000) && decide (g < Kp430.groupCount) && decide (c ≤ 1000) && decide (x ≤ 10000) && Kp430.validTopics ns) = true from hb]; decide
      rw [if_neg hb'] at k
      have h9 := wf.cn
      refine q_when (et_test (ev_op (pg_lenC T (hp.mono e1) (ev_var rfl)) ev_c (rv_eq rfl))) (fun hb2 H2 e2 => ?_) (fun hb2 H2 e2 => ?_)
      · have : p.candidates.length = 9 := by
          have h := of_decide_eq_true hb2
          injection h with h
          omega
        rw [if_pos (by show 9 ≤ _; omega)] at k
        exact ret_err ⟨L, hp.mono (e1.trans e2), A.mono (e1.trans e2)⟩ ev_c k
      · have : p.candidates.length ≠ 9 := fun q => by
          have h := of_decide_eq_false hb2
          exact h (by rw [q]; rfl)
        rw [if_neg (by show ¬ 9 ≤ _; omega)] at k
        have e12 := e1.trans e2
        have hp2 := hp.mono e12
        refine q_appC (CC := CC) hp2.hc (pg_candidates T hp2 (ev_var rfl)) (ea_cons (ev_var rfl) (ea_cons (ev_var rfl) (ea_cons (ev_var rfl) (ea_cons (ev_var rfl) (ea_cons (ev_var rfl) ea_nil))))) (by rw [List.length_map, hp2.hcl]; omega) fun n dx H3 hn e3 h3 => ?_
        have e13 := e12.trans e3
        have hI := pl_add (c := ⟨n, dx, l⟩) (k := ⟨s, g, c, x, ns⟩) (hp.mono e13) (A.mono e13) ⟨h3, e13 _ _ hlH⟩ hl ((A.mono e12).fresh hn) (fun d hd q => by
          obtain ⟨i, hi, rfl⟩ := List.getElem_of_mem hd
          have hi2 : i < p.candidates.length := by rw [← hp.hcl]; exact hi
          have := (hp2.hca i _ _ (List.getElem?_eq_getElem hi) (List.getElem?_eq_getElem hi2)).ins
          have q : (L.cs[i]).at_ = n := q
          rw [q, hn] at this
          cases this)
        obtain ⟨L6, hp6, A6⟩ := hI
        refine ret_one ⟨L6, hp6, A6⟩ (ev_is (ev_op (pg_lenC T hp6 (ev_var rfl)) ev_c rv_I0) ?_) k
        show V.int (((p.candidates ++ [_]).length : Int) - 1) = V.int (p.candidates.length : Int)
        rw [List.length_append]
        congr 1
        show ((p.candidates.length + 1 : Nat) : Int) - 1 = _
        omega
/-! ### the way from a call's number to its def -/
/-- a call of a def that may change the page, handed back -/
theorem ret_spM {call : List V → Hp → Kp430.Call → Prop} {E : XK} {tz : TA} {rest : List V} {c : Kp430.Call} (hI : PageIn CC CP Hs H a p) (wf : Wf p) (h : EvA tz σ H (.ref a :: rest)) (hc : call rest Hs c) (k : After CC CP Hs a (Kp430.step (some p) c) D.rt) : tRet (tCall (spM CC CP call) [] E tz) D σ H :=
  h H (Ex.refl H) _ fun H1 e1 => by
    show spM CC CP call ((.ref a :: rest) ++ []) H1 D.rt E
    rw [List.append_nil]
    exact ⟨Hs, a, p, rest, c, rfl, hI.mono e1, wf, hc, k⟩
/-- what is handed to change, and which call it is -/
inductive ChangeIs : Nat → List Nat → List Nat → Kp430.Call → Prop
  | c1 (w x y z : Nat) (r : List Nat) : ChangeIs 1 [w, x, y, z] r (.addCandidate w x y z r)
  | c2 (w x : Nat) (r : List Nat) : ChangeIs 2 [w, x] r (.setScore w x)
  | c3 (w x y : Nat) (r : List Nat) : ChangeIs 3 [w, x, y] r (.setQuota w x y)
  | c4 (w x : Nat) (r : List Nat) : ChangeIs 4 [w, x] r (.setCreators w x)
  | c5 (w x : Nat) (r : List Nat) : ChangeIs 5 [w, x] r (.setFreshness w x)
  | c6 (w : Nat) (r : List Nat) : ChangeIs 6 [w] r (.setDiversity w)
  | c7 (w x : Nat) (r : List Nat) : ChangeIs 7 [w, x] r (.forbid w x)
  | c8 (w x : Nat) (r : List Nat) : ChangeIs 8 [w, x] r (.allow w x)
  | c9 (w x : Nat) (r : List Nat) : ChangeIs 9 [w, x] r (.pin w x)
  | c10 (w : Nat) (r : List Nat) : ChangeIs 10 [w] r (.unpin w)

def cChange : List V → Hp → Kp430.Call → Prop := fun rest Hs c => ∃ n xs row ln lr, rest = [nV n, .ref ln, .ref lr] ∧ Hs ln = some (.lst (xs.map nV)) ∧ src Hs lr = some (.lst (row.map nV)) ∧ row.length ≤ 12 ∧ ChangeIs n xs row c
theorem q_no {t : TT} {tu tz : TS} {b : Bool} (h : EvT t σ H b) (hb : b = false) (k : ∀ H1, Ex H H1 → tz D σ H1) : tSeq (tIfS t tu tNext) tz D σ H := q_when h (fun q => absurd (hb.symm.trans q) (by decide)) fun _ => k
theorem q_yes {t : TT} {tu tz : TS} {b : Bool} (h : EvT t σ H b) (hb : b = true) (k : ∀ H1, Ex H H1 → tu { D with nx := tz D } σ H1) : tSeq (tIfS t tu tNext) tz D σ H := q_when h (fun _ => k) fun q => absurd (hb.symm.trans q) (by decide)
abbrev s_change : Stmt := topS 110
theorem sc_change : FnScope ["page", "number", "numbers", "row"] ["page", "number", "numbers", "row"] (defScope s_change) := ⟨rfl, rfl, rfl, by decide +kernel, rfl, by decide +kernel, by decide +kernel⟩
theorem ok_change (T : Txt K mg CC CP CS) (F : FunAt K mg "change" s_change ["page", "number", "numbers", "row"]) (D_add_candidate : DefAt P w K mg base 3 "add_candidate" ["page", "score", "group", "creator", "age", "topics"] (spM CC CP cAdd)) (D_set_score : DefAt P w K mg base 2 "set_score" ["page", "candidate", "score"] (spM CC CP cScore)) (D_set_quota : DefAt P w K mg base 2 "set_quota" ["page", "group", "lower", "upper"] (spM CC CP cQuota)) (D_set_creators : DefAt P w K mg base 2 "set_creators" ["page", "limit", "spacing"] (spM CC CP cCreators)) (D_set_freshness : DefAt P w K mg base 2 "set_freshness" ["page", "age", "least"] (spM CC CP cFreshness)) (D_set_diversity : DefAt P w K mg base 2 "set_diversity" ["page", "weight"] (spM CC CP cDiversity)) (D_forbid : DefAt P w K mg base 2 "forbid" ["page", "first", "second"] (spM CC CP (cPairs .forbid))) (D_allow : DefAt P w K mg base 2 "allow" ["page", "first", "second"] (spM CC CP (cPairs .allow))) (D_pin : DefAt P w K mg base 2 "pin" ["page", "position", "candidate"] (spM CC CP cPin)) (D_unpin : DefAt P w K mg base 2 "unpin" ["page", "position"] (spM CC CP cUnpin)) :
    DefAt P w K mg base 4 "change" ["page", "number", "numbers", "row"] (spM CC CP cChange) := by
  obtain ⟨f, fd, FF, hm, hb⟩ := F.ex
  refine ⟨f, fd, FF.ok sc_change (fun vs H Q E h => ?_) (fun cdv A outer s H vs Q E hr h => ⟨_, (pss_cons (ps_if (pt_cmpR op_eq (pv 1) pe_int (nomark _)) (pss_one (ps_ret (pe_cd D_add_candidate (hr.mono (by decide)) pass0 (pa_cons (pv 0) (pa_cons (pe_ix (ixL (K := K)) (pv 2) pe_int (fun _ _ => rfl)) (pa_cons (pe_ix (ixL (K := K)) (pv 2) pe_int (fun _ _ => rfl)) (pa_cons (pe_ix (ixL (K := K)) (pv 2) pe_int (fun _ _ => rfl)) (pa_cons (pe_ix (ixL (K := K)) (pv 2) pe_int (fun _ _ => rfl)) (pa_cons (pv 3) pa_nil))))))))) pss_nil)
      (pss_cons (ps_if (pt_cmpR op_eq (pv 1) pe_int (nomark _)) (pss_one (ps_ret (pe_cd D_set_score (hr.mono (by decide)) pass0 (pa_cons (pv 0) (pa_cons (pe_ix (ixL (K := K)) (pv 2) pe_int (fun _ _ => rfl)) (pa_cons (pe_ix (ixL (K := K)) (pv 2) pe_int (fun _ _ => rfl)) pa_nil)))))) pss_nil)
      (pss_cons (ps_if (pt_cmpR op_eq (pv 1) pe_int (nomark _)) (pss_one (ps_ret (pe_cd D_set_quota (hr.mono (by decide)) pass0 (pa_cons (pv 0) (pa_cons (pe_ix (ixL (K := K)) (pv 2) pe_int (fun _ _ => rfl)) (pa_cons (pe_ix (ixL (K := K)) (pv 2) pe_int (fun _ _ => rfl)) (pa_cons (pe_ix (ixL (K := K)) (pv 2) pe_int (fun _ _ => rfl)) pa_nil))))))) pss_nil)
      (pss_cons (ps_if (pt_cmpR op_eq (pv 1) pe_int (nomark _)) (pss_one (ps_ret (pe_cd D_set_creators (hr.mono (by decide)) pass0 (pa_cons (pv 0) (pa_cons (pe_ix (ixL (K := K)) (pv 2) pe_int (fun _ _ => rfl)) (pa_cons (pe_ix (ixL (K := K)) (pv 2) pe_int (fun _ _ => rfl)) pa_nil)))))) pss_nil)
      (pss_cons (ps_if (pt_cmpR op_eq (pv 1) pe_int (nomark _)) (pss_one (ps_ret (pe_cd D_set_freshness (hr.mono (by decide)) pass0 (pa_cons (pv 0) (pa_cons (pe_ix (ixL (K := K)) (pv 2) pe_int (fun _ _ => rfl)) (pa_cons (pe_ix (ixL (K := K)) (pv 2) pe_int (fun _ _ => rfl)) pa_nil)))))) pss_nil)
      (pss_cons (ps_if (pt_cmpR op_eq (pv 1) pe_int (nomark _)) (pss_one (ps_ret (pe_cd D_set_diversity (hr.mono (by decide)) pass0 (pa_cons (pv 0) (pa_cons (pe_ix (ixL (K := K)) (pv 2) pe_int (fun _ _ => rfl)) pa_nil))))) pss_nil)
      (pss_cons (ps_if (pt_cmpR op_eq (pv 1) pe_int (nomark _)) (pss_one (ps_ret (pe_cd D_forbid (hr.mono (by decide)) pass0 (pa_cons (pv 0) (pa_cons (pe_ix (ixL (K := K)) (pv 2) pe_int (fun _ _ => rfl)) (pa_cons (pe_ix (ixL (K := K)) (pv 2) pe_int (fun _ _ => rfl)) pa_nil)))))) pss_nil)
      (pss_cons (ps_if (pt_cmpR op_eq (pv 1) pe_int (nomark _)) (pss_one (ps_ret (pe_cd D_allow (hr.mono (by decide)) pass0 (pa_cons (pv 0) (pa_cons (pe_ix (ixL (K := K)) (pv 2) pe_int (fun _ _ => rfl)) (pa_cons (pe_ix (ixL (K := K)) (pv 2) pe_int (fun _ _ => rfl)) pa_nil)))))) pss_nil)
      (pss_cons (ps_if (pt_cmpR op_eq (pv 1) pe_int (nomark _)) (pss_one (ps_ret (pe_cd D_pin (hr.mono (by decide)) pass0 (pa_cons (pv 0) (pa_cons (pe_ix (ixL (K := K)) (pv 2) pe_int (fun _ _ => rfl)) (pa_cons (pe_ix (ixL (K := K)) (pv 2) pe_int (fun _ _ => rfl)) pa_nil)))))) pss_nil)
      (pss_one (ps_ret (pe_cd D_unpin (hr.mono (by decide)) pass0 (pa_cons (pv 0) (pa_cons (pe_ix (ixL (K := K)) (pv 2) pe_int (fun _ _ => rfl)) pa_nil)))))))))))))), ?_⟩), hm, FF.kp, hb⟩
  · obtain ⟨_, _, _, _, _, rfl, _, _, ⟨_, _, _, _, _, rfl, _⟩, _⟩ := h
    rfl
  · obtain ⟨Hs, a, p, _, _, rfl, ⟨L, hp, A⟩, wf, ⟨n, xs, row, ln, lr, rfl, hln, hlr, hr12, hc⟩, k⟩ := h
    have hn : H ln = some (.lst (xs.map nV)) := A.ex _ _ hln
    cases hc with
    | c1 w x y z r =>
      refine q_yes (et_test (ev_op (ev_var rfl) ev_c (rv_eq rfl))) (by decide) fun H1 e1 => ?_
      exact ret_spM ⟨L, hp.mono ((Ex.refl H).trans e1), A.mono ((Ex.refl H).trans e1)⟩ wf (ea_cons (ev_var rfl) (ea_cons (ev_ixS (es_of (ev_var (by rfl)) (sq_of (((Ex.refl H).trans e1) _ _ hn))) ev_c (atI_nat (j := 0) rfl)) (ea_cons (ev_ixS (es_of (ev_var (by rfl)) (sq_of (((Ex.refl H).trans e1) _ _ hn))) ev_c (atI_nat (j := 1) rfl)) (ea_cons (ev_ixS (es_of (ev_var (by rfl)) (sq_of (((Ex.refl H).trans e1) _ _ hn))) ev_c (atI_nat (j := 2) rfl)) (ea_cons (ev_ixS (es_of (ev_var (by rfl)) (sq_of (((Ex.refl H).trans e1) _ _ hn))) ev_c (atI_nat (j := 3) rfl)) (ea_cons (ev_var rfl) ea_nil)))))) ⟨w, x, y, z, lr, row, rfl, hlr, hr12, rfl⟩ k
    | c2 w x r =>
      refine q_no (et_test (ev_op (ev_var rfl) ev_c (rv_eq rfl))) (by decide) fun H1 e1 => ?_
      refine q_yes (et_test (ev_op (ev_var rfl) ev_c (rv_eq rfl))) (by decide) fun H2 e2 => ?_
      exact ret_spM ⟨L, hp.mono (((Ex.refl H).trans e1).trans e2), A.mono (((Ex.refl H).trans e1).trans e2)⟩ wf (ea_cons (ev_var rfl) (ea_cons (ev_ixS (es_of (ev_var (by rfl)) (sq_of ((((Ex.refl H).trans e1).trans e2) _ _ hn))) ev_c (atI_nat (j := 0) rfl)) (ea_cons (ev_ixS (es_of (ev_var (by rfl)) (sq_of ((((Ex.refl H).trans e1).trans e2) _ _ hn))) ev_c (atI_nat (j := 1) rfl)) ea_nil))) ⟨w, x, rfl, rfl⟩ k
    | c3 w x y r =>
      refine q_no (et_test (ev_op (ev_var rfl) ev_c (rv_eq rfl))) (by decide) fun H1 e1 => ?_
      refine q_no (et_test (ev_op (ev_var rfl) ev_c (rv_eq rfl))) (by decide) fun H2 e2 => ?_
      refine q_yes (et_test (ev_op (ev_var rfl) ev_c (rv_eq rfl))) (by decide) fun H3 e3 => ?_
      exact ret_spM ⟨L, hp.mono ((((Ex.refl H).trans e1).trans e2).trans e3), A.mono ((((Ex.refl H).trans e1).trans e2).trans e3)⟩ wf (ea_cons (ev_var rfl) (ea_cons (ev_ixS (es_of (ev_var (by rfl)) (sq_of (((((Ex.refl H).trans e1).trans e2).trans e3) _ _ hn))) ev_c (atI_nat (j := 0) rfl)) (ea_cons (ev_ixS (es_of (ev_var (by rfl)) (sq_of (((((Ex.refl H).trans e1).trans e2).trans e3) _ _ hn))) ev_c (atI_nat (j := 1) rfl)) (ea_cons (ev_ixS (es_of (ev_var (by rfl)) (sq_of (((((Ex.refl H).trans e1).trans e2).trans e3) _ _ hn))) ev_c (atI_nat (j := 2) rfl)) ea_nil)))) ⟨w, x, y, rfl, rfl⟩ k
    | c4 w x r =>
      refine q_no (et_test (ev_op (ev_var rfl) ev_c (rv_eq rfl))) (by decide) fun H1 e1 => ?_
      refine q_no (et_test (ev_op (ev_var rfl) ev_c (rv_eq rfl))) (by decide) fun H2 e2 => ?_
      refine q_no (et_test (ev_op (ev_var rfl) ev_c (rv_eq rfl))) (by decide) fun H3 e3 => ?_
      refine q_yes (et_test (ev_op (ev_var rfl) ev_c (rv_eq rfl))) (by decide) fun H4 e4 => ?_
      exact ret_spM ⟨L, hp.mono (((((Ex.refl H).trans e1).trans e2).trans e3).trans e4), A.mono (((((Ex.refl H).trans e1).trans e2).trans e3).trans e4)⟩ wf (ea_cons (ev_var rfl) (ea_cons (ev_ixS (es_of (ev_var (by rfl)) (sq_of ((((((Ex.refl H).trans e1).trans e2).trans e3).trans e4) _ _ hn))) ev_c (atI_nat (j := 0) rfl)) (ea_cons (ev_ixS (es_of (ev_var (by rfl)) (sq_of ((((((Ex.refl H).trans e1).trans e2).trans e3).trans e4) _ _ hn))) ev_c (atI_nat (j := 1) rfl)) ea_nil))) ⟨w, x, rfl, rfl⟩ k
    | c5 w x r =>
      refine q_no (et_test (ev_op (ev_var rfl) ev_c (rv_eq rfl))) (by decide) fun H1 e1 => ?_
      refine q_no (et_test (ev_op (ev_var rfl) ev_c (rv_eq rfl))) (by decide) fun H2 e2 => ?_
      refine q_no (et_test (ev_op (ev_var rfl) ev_c (rv_eq rfl))) (by decide) fun H3 e3 => ?_
      refine q_no (et_test (ev_op (ev_var rfl) ev_c (rv_eq rfl))) (by decide) fun H4 e4 => ?_
      refine q_yes (et_test (ev_op (ev_var rfl) ev_c (rv_eq rfl))) (by decide) fun H5 e5 => ?_
      exact ret_spM ⟨L, hp.mono ((((((Ex.refl H).trans e1).trans e2).trans e3).trans e4).trans e5), A.mono ((((((Ex.refl H).trans e1).trans e2).trans e3).trans e4).trans e5)⟩ wf (ea_cons (ev_var rfl) (ea_cons (ev_ixS (es_of (ev_var (by rfl)) (sq_of (((((((Ex.refl H).trans e1).trans e2).trans e3).trans e4).trans e5) _ _ hn))) ev_c (atI_nat (j := 0) rfl)) (ea_cons (ev_ixS (es_of (ev_var (by rfl)) (sq_of (((((((Ex.refl H).trans e1).trans e2).trans e3).trans e4).trans e5) _ _ hn))) ev_c (atI_nat (j := 1) rfl)) ea_nil))) ⟨w, x, rfl, rfl⟩ k
    | c6 w r =>
      refine q_no (et_test (ev_op (ev_var rfl) ev_c (rv_eq rfl))) (by decide) fun H1 e1 => ?_
      refine q_no (et_test (ev_op (ev_var rfl) ev_c (rv_eq rfl))) (by decide) fun H2 e2 => ?_
      refine q_no (et_test (ev_op (ev_var rfl) ev_c (rv_eq rfl))) (by decide) fun H3 e3 => ?_
      refine q_no (et_test (ev_op (ev_var rfl) ev_c (rv_eq rfl))) (by decide) fun H4 e4 => ?_
      refine q_no (et_test (ev_op (ev_var rfl) ev_c (rv_eq rfl))) (by decide) fun H5 e5 => ?_
      refine q_yes (et_test (ev_op (ev_var rfl) ev_c (rv_eq rfl))) (by decide) fun H6 e6 => ?_
      exact ret_spM ⟨L, hp.mono (((((((Ex.refl H).trans e1).trans e2).trans e3).trans e4).trans e5).trans e6), A.mono (((((((Ex.refl H).trans e1).trans e2).trans e3).trans e4).trans e5).trans e6)⟩ wf (ea_cons (ev_var rfl) (ea_cons (ev_ixS (es_of (ev_var (by rfl)) (sq_of ((((((((Ex.refl H).trans e1).trans e2).trans e3).trans e4).trans e5).trans e6) _ _ hn))) ev_c (atI_nat (j := 0) rfl)) ea_nil)) ⟨w, rfl, rfl⟩ k
    | c7 w x r =>
      refine q_no (et_test (ev_op (ev_var rfl) ev_c (rv_eq rfl))) (by decide) fun H1 e1 => ?_
      refine q_no (et_test (ev_op (ev_var rfl) ev_c (rv_eq rfl))) (by decide) fun H2 e2 => ?_
      refine q_no (et_test (ev_op (ev_var rfl) ev_c (rv_eq rfl))) (by decide) fun H3 e3 => ?_
      refine q_no (et_test (ev_op (ev_var rfl) ev_c (rv_eq rfl))) (by decide) fun H4 e4 => ?_
      refine q_no (et_test (ev_op (ev_var rfl) ev_c (rv_eq rfl))) (by decide) fun H5 e5 => ?_
      refine q_no (et_test (ev_op (ev_var rfl) ev_c (rv_eq rfl))) (by decide) fun H6 e6 => ?_
      refine q_yes (et_test (ev_op (ev_var rfl) ev_c (rv_eq rfl))) (by decide) fun H7 e7 => ?_
      exact ret_spM ⟨L, hp.mono ((((((((Ex.refl H).trans e1).trans e2).trans e3).trans e4).trans e5).trans e6).trans e7), A.mono ((((((((Ex.refl H).trans e1).trans e2).trans e3).trans e4).trans e5).trans e6).trans e7)⟩ wf (ea_cons (ev_var rfl) (ea_cons (ev_ixS (es_of (ev_var (by rfl)) (sq_of (((((((((Ex.refl H).trans e1).trans e2).trans e3).trans e4).trans e5).trans e6).trans e7) _ _ hn))) ev_c (atI_nat (j := 0) rfl)) (ea_cons (ev_ixS (es_of (ev_var (by rfl)) (sq_of (((((((((Ex.refl H).trans e1).trans e2).trans e3).trans e4).trans e5).trans e6).trans e7) _ _ hn))) ev_c (atI_nat (j := 1) rfl)) ea_nil))) ⟨w, x, rfl, rfl⟩ k
    | c8 w x r =>
      refine q_no (et_test (ev_op (ev_var rfl) ev_c (rv_eq rfl))) (by decide) fun H1 e1 => ?_
      refine q_no (et_test (ev_op (ev_var rfl) ev_c (rv_eq rfl))) (by decide) fun H2 e2 => ?_
      refine q_no (et_test (ev_op (ev_var rfl) ev_c (rv_eq rfl))) (by decide) fun H3 e3 => ?_
      refine q_no (et_test (ev_op (ev_var rfl) ev_c (rv_eq rfl))) (by decide) fun H4 e4 => ?_
      refine q_no (et_test (ev_op (ev_var rfl) ev_c (rv_eq rfl))) (by decide) fun H5 e5 => ?_
      refine q_no (et_test (ev_op (ev_var rfl) ev_c (rv_eq rfl))) (by decide) fun H6 e6 => ?_
      refine q_no (et_test (ev_op (ev_var rfl) ev_c (rv_eq rfl))) (by decide) fun H7 e7 => ?_
      refine q_yes (et_test (ev_op (ev_var rfl) ev_c (rv_eq rfl))) (by decide) fun H8 e8 => ?_
      exact ret_spM ⟨L, hp.mono (((((((((Ex.refl H).trans e1).trans e2).trans e3).trans e4).trans e5).trans e6).trans e7).trans e8), A.mono (((((((((Ex.refl H).trans e1).trans e2).trans e3).trans e4).trans e5).trans e6).trans e7).trans e8)⟩ wf (ea_cons (ev_var rfl) (ea_cons (ev_ixS (es_of (ev_var (by rfl)) (sq_of ((((((((((Ex.refl H).trans e1).trans e2).trans e3).trans e4).trans e5).trans e6).trans e7).trans e8) _ _ hn))) ev_c (atI_nat (j := 0) rfl)) (ea_cons (ev_ixS (es_of (ev_var (by rfl)) (sq_of ((((((((((Ex.refl H).trans e1).trans e2).trans e3).trans e4).trans e5).trans e6).trans e7).trans e8) _ _ hn))) ev_c (atI_nat (j := 1) rfl)) ea_nil))) ⟨w, x, rfl, rfl⟩ k
    | c9 w x r =>
      refine q_no (et_test (ev_op (ev_var rfl) ev_c (rv_eq rfl))) (by decide) fun H1 e1 => ?_
      refine q_no (et_test (ev_op (ev_var rfl) ev_c (rv_eq rfl))) (by decide) fun H2 e2 => ?_
      refine q_no (et_test (ev_op (ev_var rfl) ev_c (rv_eq rfl))) (by decide) fun H3 e3 => ?_
      refine q_no (et_test (ev_op (ev_var rfl) ev_c (rv_eq rfl))) (by decide) fun H4 e4 => ?_
      refine q_no (et_test (ev_op (ev_var rfl) ev_c (rv_eq rfl))) (by decide) fun H5 e5 => ?_
      refine q_no (et_test (ev_op (ev_var rfl) ev_c (rv_eq rfl))) (by decide) fun H6 e6 => ?_
      refine q_no (et_test (ev_op (ev_var rfl) ev_c (rv_eq rfl))) (by decide) fun H7 e7 => ?_
      refine q_no (et_test (ev_op (ev_var rfl) ev_c (rv_eq rfl))) (by decide) fun H8 e8 => ?_
      refine q_yes (et_test (ev_op (ev_var rfl) ev_c (rv_eq rfl))) (by decide) fun H9 e9 => ?_
      exact ret_spM ⟨L, hp.mono ((((((((((Ex.refl H).trans e1).trans e2).trans e3).trans e4).trans e5).trans e6).trans e7).trans e8).trans e9), A.mono ((((((((((Ex.refl H).trans e1).trans e2).trans e3).trans e4).trans e5).trans e6).trans e7).trans e8).trans e9)⟩ wf (ea_cons (ev_var rfl) (ea_cons (ev_ixS (es_of (ev_var (by rfl)) (sq_of (((((((((((Ex.refl H).trans e1).trans e2).trans e3).trans e4).trans e5).trans e6).trans e7).trans e8).trans e9) _ _ hn))) ev_c (atI_nat (j := 0) rfl)) (ea_cons (ev_ixS (es_of (ev_var (by rfl)) (sq_of (((((((((((Ex.refl H).trans e1).trans e2).trans e3).trans e4).trans e5).trans e6).trans e7).trans e8).trans e9) _ _ hn))) ev_c (atI_nat (j := 1) rfl)) ea_nil))) ⟨w, x, rfl, rfl⟩ k
    | c10 w r =>
      refine q_no (et_test (ev_op (ev_var rfl) ev_c (rv_eq rfl))) (by decide) fun H1 e1 => ?_
      refine q_no (et_test (ev_op (ev_var rfl) ev_c (rv_eq rfl))) (by decide) fun H2 e2 => ?_
      refine q_no (et_test (ev_op (ev_var rfl) ev_c (rv_eq rfl))) (by decide) fun H3 e3 => ?_
      refine q_no (et_test (ev_op (ev_var rfl) ev_c (rv_eq rfl))) (by decide) fun H4 e4 => ?_
      refine q_no (et_test (ev_op (ev_var rfl) ev_c (rv_eq rfl))) (by decide) fun H5 e5 => ?_
      refine q_no (et_test (ev_op (ev_var rfl) ev_c (rv_eq rfl))) (by decide) fun H6 e6 => ?_
      refine q_no (et_test (ev_op (ev_var rfl) ev_c (rv_eq rfl))) (by decide) fun H7 e7 => ?_
      refine q_no (et_test (ev_op (ev_var rfl) ev_c (rv_eq rfl))) (by decide) fun H8 e8 => ?_
      refine q_no (et_test (ev_op (ev_var rfl) ev_c (rv_eq rfl))) (by decide) fun H9 e9 => ?_
      exact ret_spM ⟨L, hp.mono ((((((((((Ex.refl H).trans e1).trans e2).trans e3).trans e4).trans e5).trans e6).trans e7).trans e8).trans e9), A.mono ((((((((((Ex.refl H).trans e1).trans e2).trans e3).trans e4).trans e5).trans e6).trans e7).trans e8).trans e9)⟩ wf (ea_cons (ev_var rfl) (ea_cons (ev_ixS (es_of (ev_var (by rfl)) (sq_of (((((((((((Ex.refl H).trans e1).trans e2).trans e3).trans e4).trans e5).trans e6).trans e7).trans e8).trans e9) _ _ hn))) ev_c (atI_nat (j := 0) rfl)) ea_nil)) ⟨w, rfl, rfl⟩ k
end
end Ps
end

section
set_option maxRecDepth 100000
set_option maxHeartbeats 2000000
namespace Ps
open PySem PySem.Spec PyProof.Rows L2 Evl LamX NdefX
/-! A lambda handed to max and sorted as their key. -/
/-- a lambda's words -/
abbrev lamN (qual : Str) (params : Arguments) (scope : Scope) (cl : List (Str × Addr)) (c : Addr) : NF := ⟨"<lambda>", qual, params, [], scope, cl, c⟩
section
variable {X : Cx} {pins : List (Addr × Obj)} {σ : L2.St} {H : Hp} {s : Shared}
/-- the lambda f called while its maker's frame runs, from inside a built-in -/
theorem lam_called {N ps fr : List Str} {js : List Nat} {F : NF} {f : Addr} {pm ctv : Value} {body : Expr} {tb : TE} {A : Around} {us : List Value} {vs : List V} {Q : VK} {k : Nat} (S : NScope N ps fr F.scope) (cp : Caps X F.cl fr js)
    (hbind : bindArgs (PySem.W.kla_fn F.name F.qual F.params body F.scope F.cl pm (.ref F.c) ctv) ⟨us, []⟩ = pure (ps.zip us)) (I : Inv X pins σ H s) (hf : s.heap.get? f = some (PySem.W.kla_obj F.name F.qual F.params body F.scope F.cl pm F.c ctv)) (hc : H F.c = some (CodeO F.c F.qual))
    (hA : A.frames = some X.stack) (hr : Room (k + 1) A) (r : Vals vs us) (hl : vs.length = ps.length)
    (hbody : ∀ (A : Around) (outer : List Env) (s : Shared) (H : Hp), Room k (A.deeper (envF F f s.heap.objs.size)) → PE (ncx CX0 X.prog X.w X.K X.mg X.base N F f A outer s H E0) body tb) (q : tb (startF N vs (js.map (slotAt σ))) H Q) :
    codeAny (model X.prog X.w) A (.call (.ref f) ⟨us, []⟩) (CR CX0 X.stack X.prog X.w H s Q E0) s := by
  have C := cells_of I cp
  have e1 := I.env0
  have e0 : Env0 X.prog X.w X.K X.mg X.base A X.stack s H := ⟨hA, e1.mod, e1.bs, e1.bsz, e1.funs, e1.frf, e1.hok, e1.bare⟩
  have lim : s.heap.NoLimit := I.nolimit
  refine PySem.W.kla_callFunE hr.depth hf rfl S.co S.gen rfl (codeO_at I.hok hc) ?_
  rw [hbind]
  refine wpAny_pure (wpAny_newFunctionEnv S.nocell (fun ⟨n, _⟩ hy => S.par n (List.of_mem_zip hy).1) (fun h₁ hns hsb => ⟨lim.fresh _ hsb, ?_⟩) S.kind)
  show codeAny _ _ (.expr body (envF F f s.heap.objs.size)) _ _
  have kp : ∀ b o, s.heap.get? b = some o → h₁.get? b = some o := fun b o e => hsb.extBut b o (Nat.ne_of_lt (Heap.lt_size e)) (Heap.get?_push_of_some _ e)
  have J : Inv (ncx CX0 X.prog X.w X.K X.mg X.base N F f A X.stack s H E0) [] (startF N vs (js.map (slotAt σ))) H { s with heap := h₁, toks := s.toks + (ps.zip us).length } := inv_startN S hr.hd e0 hl r C hns kp
  refine PySem.W.kla_codeExpr (wpAny_mono ((hbody A X.stack s H (hr.deeper _)).run [] _ _ H Q J q) (fun v s' hq => ?_) fun e s' hq => hq)
  obtain ⟨w', H', J', rv, q⟩ := hq
  exact ⟨w', H', J'.os, J'.bare, J'.base, J'.hok, rv, q⟩
/-- the first greatest -/
theorem argBest_top (key : Nat → Int) : ∀ k, argBest (fun i j => decide (key j < key i)) k ≤ k ∧ ∀ j, j ≤ k → key j ≤ key (argBest (fun i j => decide (key j < key i)) k) ∧ (j < argBest (fun i j => decide (key j < key i)) k → key j < key (argBest (fun i j => decide (key j < key i)) k))
  | 0 => ⟨Nat.le_refl _, fun j hj => by
    have : j = 0 := by omega
    subst this
    exact ⟨Int.le_refl _, fun h => absurd h (Nat.not_lt_zero _)⟩⟩
  | k + 1 => by
    obtain ⟨h1, h2⟩ := argBest_top key k
    by_cases hb : key (argBest (fun i j => decide (key j < key i)) k) < key (k + 1)
    · have e : argBest (fun i j => decide (key j < key i)) (k + 1) = k + 1 := if_pos (decide_eq_true hb)
      rw [e]
      refine ⟨Nat.le_refl _, fun j hj => ?_⟩
      by_cases q : j = k + 1
      · subst q
        exact ⟨Int.le_refl _, fun h => absurd h (Nat.lt_irrefl _)⟩
      · have := (h2 j (by omega)).1
        exact ⟨by omega, fun _ => by omega⟩
    · have e : argBest (fun i j => decide (key j < key i)) (k + 1) = argBest (fun i j => decide (key j < key i)) k := if_neg (by simpa using hb)
      rw [e]
      refine ⟨by omega, fun j hj => ?_⟩
      by_cases q : j = k + 1
      · subst q
        exact ⟨by omega, fun h => by omega⟩
      · exact h2 j (by omega)
/-- an object that is not tracked and no frame's, behind a call -/
theorem call_keeps {Q : VK} {u : Value} {s' : Shared} (I : Inv X pins σ H s) (h : CE X.stack X.prog X.w H s Q u s') : ∃ v H', Inv X pins σ H' s' ∧ RelV v u ∧ Q v H' ∧ (∀ b o, s.heap.get? b = some o → H b = none → b ∉ frs X.stack → s'.heap.get? b = some o ∧ H' b = none) := by
  obtain ⟨v, H', os, bare, un, hok, r, q⟩ := h
  obtain ⟨hh, g, d, t, os'⟩ := s'
  obtain rfl : os' = s.os := os
  exact ⟨v, H', I.call (h' := hh) (g' := g) (d' := d) (t' := t) (ch := []) un hok bare (fun b z => absurd z (by simp)), r, q, fun b o e n nf => ⟨un.keep b o e n nf (by simp), un.free b o e n (by simp)⟩⟩
theorem new_nofr (I : Inv X pins σ H s) {b : Addr} (h : s.heap.objs.size ≤ b) : b ∉ frs X.stack := fun z => by
  rcases List.mem_cons.mp (I.stkSub _ z) with e | e
  · have h1 := I.lt
    rw [← e] at h1
    exact Nat.lt_irrefl _ (Nat.lt_of_lt_of_le h1 h)
  · exact I.nofs h e
/-- new records of ours have turned -/
theorem Inv_moved {S it n0 : Addr} {s' : Shared} (I : Inv X pins σ H s) (h1 : n0 ≤ it) (h2 : n0 ≤ S) (hloc : X.env.locals < n0) (hs0 : X.s_0.heap.objs.size ≤ n0) (hcl : ∀ x c, X.env.cells.lookup x = some c → c < n0) (hpn : ∀ p ∈ X.pn ++ pins, p.1 < n0)
    (ni : H it = none) (nS : H S = none) (m : Moved [S, it] (fun a b => b = a) s s') : Inv X pins σ H s' := by
  obtain ⟨hh, g, d, t, os'⟩ := s'
  have eg : g = s.gens := m.gens
  have ed : d = s.drawn := m.drawn
  have eo : os' = s.os := m.os
  subst eg
  subst ed
  subst eo
  have nd : ∀ b u, H b = some u → b ∉ [S, it] := fun b u e z => by
    rcases List.mem_cons.mp z with z | z
    · rw [z, nS] at e; cases e
    · rw [List.mem_singleton.mp z, ni] at e; cases e
  have ge : ∀ b ∈ [S, it], n0 ≤ b := fun b hb => by
    rcases List.mem_cons.mp hb with z | z
    · rw [z]; exact h2
    · rw [List.mem_singleton.mp z]; exact h1
  have kp : ∀ b o, b ∉ [S, it] → s.heap.get? b = some o → hh.get? b = some o := fun b o hb e => m.heap b o hb e
  refine I.step (g' := s.gens) (d' := s.drawn) (ch := [S, it]) (fun b hb => ?_) (fun b o _ _ hc e _ => kp b o hc e) (fun b o _ _ hc e _ => ⟨o.slots, kp b o hc e⟩) (fun _ _ _ _ n => n) (fun b o hc e => ⟨o, kp b o hc e⟩) (fun _ _ e => e) (fun _ _ _ e => e) (fun b ps e => ⟨#[], by rw [e]; simp⟩)
    (fun mm hm => ?_) (fun b u e => ?_) I.bare
  · have hb := ge b hb
    exact ⟨.inr (Nat.le_trans hs0 hb), Nat.ne_of_gt (Nat.lt_of_lt_of_le hloc hb), fun x c e => Nat.ne_of_lt (Nat.lt_of_lt_of_le (hcl x c e) hb), fun p hp => Nat.ne_of_lt (Nat.lt_of_lt_of_le (hpn p hp) hb)⟩
  · obtain ⟨o, es, ep, ho, r⟩ := hm
    exact ⟨o, es, ep, kp _ o (fun z => Nat.lt_irrefl _ (Nat.lt_of_lt_of_le hloc (ge _ z))) ho, r⟩
  · refine (I.hok b u e).stay (fun c v hc q => kp c v ?_ q) (fun _ q => q) fun _ _ q => q
    rcases hc with z | z
    · rw [z]; exact nd b u e
    · exact nd c _ z
theorem vals_refs : ∀ {as : List Addr} {us : List Value}, Vals (as.map V.ref) us → us = as.map Value.ref
  | [], _, .nil => rfl
  | a :: as, _, .cons r t => by
    have r : _ = Value.ref a := r
    rw [r, vals_refs t]; rfl
/-- max(l, key=f), l a list of objects -/
theorem max_key_run {l f : Addr} {as : List Addr} {key : Nat → Int} {Q : VK} (I : Inv X pins σ H s) (hhd : X.A.handled = none) (hl : SqL X.K H l (as.map V.ref)) (hne : 0 < as.length) (of : Obj) (hfo : s.heap.get? f = some of) (hfn : H f = none) (hff : f ∉ frs X.stack)
    (turn : ∀ (i : Nat) (a : Addr) (s1 : Shared) (H1 : Hp), as[i]? = some a → Ex H H1 → Inv X pins σ H1 s1 → s1.heap.get? f = some of → H1 f = none → codeAny (model X.prog X.w) X.A.in1 (.call (.ref f) ⟨[.ref a], []⟩) (CR CX0 X.stack X.prog X.w H1 s1 (fun v H2 => v = .int (key i) ∧ Ex H1 H2) E0) s1)
    (q : ∀ i a H1, as[i]? = some a → (∀ j, j < as.length → key j ≤ key i ∧ (j < i → key j < key i)) → Ex H H1 → Q (.ref a) H1) :
    wpAny (model X.prog X.w) X.A (call (.builtin "max") [.ref l] [(Str.ofString "key", .ref f)]) (EP X pins σ Q) X.xe s := by
  obtain ⟨its, rv, pl, hz⟩ := I.list hl
  have ei := vals_refs rv
  subst ei
  have hlv : (as.map Value.ref).toArray.size = as.length := by rw [List.size_toArray, List.length_map]
  have hcl : ∀ x c, X.env.cells.lookup x = some c → c < s.heap.objs.size := fun x c e => by
    obtain ⟨v, o, ho, _⟩ := I.cell x c e
    exact Heap.lt_size ho
  have hpn : ∀ p ∈ X.pn ++ pins, p.1 < s.heap.objs.size := fun p hp => Heap.lt_size (I.pin p hp).1
  have hln : l < s.heap.objs.size := by
    obtain ⟨o, e, _⟩ := pl.isList
    exact Heap.lt_size e
  refine call_max_walkK (PySem.W.iter_listW (A := X.A.in1) hhd pl.isList fun s2 e2 W st hfp hw hk => ?_)
  have hsz : s2.heap.objs.size = s.heap.objs.size + 1 := by rw [e2]; exact Heap.size_push ..
  have nit : H s.heap.objs.size = none := I.hok.fresh (Nat.le_refl _)
  have nS0 : H s2.heap.objs.size = none := I.hok.fresh (by rw [hsz]; exact Nat.le_succ _)
  have hSit : s2.heap.objs.size ≠ s.heap.objs.size := by rw [hsz]; exact Nat.ne_of_gt (Nat.lt_succ_self _)
  have fS : s2.heap.objs.size ∉ frs X.stack := new_nofr I (by rw [hsz]; exact Nat.le_succ _)
  have fI : s.heap.objs.size ∉ frs X.stack := new_nofr I (Nat.le_refl _)
  have hf_lt : f < s.heap.objs.size := Heap.lt_size hfo
  have I2 : Inv X pins σ H s2 := by
    rw [e2]
    exact I.kept (t' := s.toks) fun b u e => Heap.get?_push_of_some _ e
  refine ⟨s.heap.objs.size, _, _, _, _, _, _, fun s' => ∃ H', Inv X pins σ H' s' ∧ Ex H H' ∧ H' s2.heap.objs.size = none ∧ H' s.heap.objs.size = none ∧ s'.heap.get? f = some of ∧ H' f = none, fun i k _ => ∃ t, k = .int (key i) t, fun i j => decide (key j < key i), rfl, W, st, hfp,
    by rw [hlv]; exact hne, ⟨?_, ?_, ?_, ?_⟩, ⟨H, I2, Ex.refl H, nS0, nit, by rw [e2]; exact Heap.get?_push_of_some _ hfo, hfn⟩, ?_⟩
  · rintro sa sb ⟨H', J, eH, n1, n2, hf', nf'⟩ m
    have m : Moved [s2.heap.objs.size, s.heap.objs.size] (fun a b => b = a) sa sb := m
    refine ⟨H', Inv_moved J (Nat.le_refl _) (by rw [hsz]; exact Nat.le_succ _) I.lt I.sz hcl hpn n2 n1 m, eH, n1, n2, m.heap _ _ (fun z => ?_) hf', nf'⟩
    rcases List.mem_cons.mp z with z | z
    · rw [z, hsz] at hf_lt; exact Nat.lt_irrefl _ (Nat.lt_trans (Nat.lt_succ_self _) hf_lt)
    · rw [List.mem_singleton.mp z] at hf_lt; exact Nat.lt_irrefl _ hf_lt
  · exact fun i k sa sb h _ => h
  · intro i v sa o Q' E' hi hP hJ hst hSo kk
    obtain ⟨H', J, eH, n1, n2, hf', nf'⟩ := hJ
    have hP : (as.map Value.ref).toArray[i]? = some v := hP
    obtain ⟨a, ha, rfl⟩ : ∃ a, as[i]? = some a ∧ v = .ref a := by
      rw [List.getElem?_toArray, List.getElem?_map] at hP
      obtain ⟨a, h1, h2⟩ := Option.map_eq_some_iff.mp hP
      exact ⟨a, h1, h2.symm⟩
    refine wpAny_call (codeAny_mono (turn i a sa H' ha eH J hf' nf') fun r s' hq => ?_)
    cases r with
    | error e => exact (show False from hq).elim
    | ok fl =>
      cases fl with
      | next => exact False.elim hq
      | brk => exact False.elim hq
      | cont => exact False.elim hq
      | ret u =>
        obtain ⟨v2, H2, J2, r2, ⟨rfl, e2'⟩, keep⟩ := call_keeps J hq
        obtain ⟨oI, hoI, c1, c2⟩ := hst.1
        have kS := keep _ _ hSo n1 fS
        have kI := keep _ _ hoI n2 fI
        have kf := keep _ _ hf' nf' hff
        obtain ⟨its2, rv2, pl2, _⟩ := J2.list (ex_l (eH.trans e2') hl)
        have ei2 := vals_refs rv2
        subst ei2
        exact kk u s' ⟨H2, J2, eH.trans e2', kS.2, kI.2, kf.1, kf.2⟩ ⟨⟨oI, kI.1, c1, c2⟩, pl2.isList⟩ kS.1 r2 fun j k' h => h
  · rintro i j ki kj sa Q' E' hJ ⟨ti, rfl⟩ ⟨tj, rfl⟩ h
    exact CmpOf.ints_gt (P := fun i v => ∃ t, v = .int (key i) t) key (fun i v h => h) i j _ _ _ _ _ ⟨ti, rfl⟩ ⟨tj, rfl⟩ h
  · rintro v s' hP ⟨H', J, eH, _⟩
    have hP : (as.map Value.ref).toArray[_]? = some v := hP
    rw [hlv] at hP
    obtain ⟨b1, b2⟩ := argBest_top key (as.length - 1)
    obtain ⟨a, ha, rfl⟩ : ∃ a, as[argBest (fun i j => decide (key j < key i)) (as.length - 1)]? = some a ∧ v = .ref a := by
      rw [List.getElem?_toArray, List.getElem?_map] at hP
      obtain ⟨a, h1, h2⟩ := Option.map_eq_some_iff.mp hP
      exact ⟨a, h1, h2.symm⟩
    exact ⟨.ref a, H', J, rfl, q _ a H' ha (fun j hj => b2 j (by omega)) eH⟩
end
/-- x(e, key=lambda ..): e's list, then the lambda at f, then the built-in's own run -/
def tKeyL (K : PySem.W.Frag) (T : List (Addr × Str)) (N : List Str) (js : List Nat) (tb : TE) (te : TA) (R : (Nat → Int) → List Addr → Hp → VK → Prop) : TE := fun σ H Q => te σ H fun xs H1 => ∃ (l : Addr) (as : List Addr) (key : Nat → Int), xs = [.ref l] ∧ SqL K H1 l (as.map V.ref) ∧ Tabs T H1 ∧
  ∀ H2, ExtN H1 H2 → Tabs T H2 → SqL K H2 l (as.map V.ref) ∧ (∀ i a H3, as[i]? = some a → Ex H2 H3 → tb (startF N [.ref a] (js.map (slotAt σ))) H3 fun v H4 => v = .int (key i) ∧ Ex H3 H4) ∧ R key as H2 Q
/-- of max -/
def rMaxKey : (Nat → Int) → List Addr → Hp → VK → Prop := fun key as H Q => 0 < as.length ∧ ∀ i a H1, as[i]? = some a → (∀ j, j < as.length → key j ≤ key i ∧ (j < i → key j < key i)) → Ex H H1 → Q (.ref a) H1
/-- a def whose code object is known -/
structure FunC (K : PySem.W.Frag) (x qual : Str) (st : Stmt) (c f : Addr) (fd : FuncData) : Prop where
  ex : ∃ (oc : Value) (od : Option Addr) (kV doc pm : Value) (an : Option Addr) (ct : Value) (osl : Array (Option Value)), fd = PySem.W.fnOf x qual (defArgs st) (defBody st) (defScope st) .none kV doc pm an (.ref c) ct ∧ K.lookup f = some ⟨oc, od, .func fd, osl⟩ ∧ PySem.W.codeIn K (.ref c) qual = true
  kp : PySem.W.keepIn K (.ref f) = true
theorem FunC.fun {K : PySem.W.Frag} {x qual : Str} {st : Stmt} {c f : Addr} {fd : FuncData} (F : FunC K x qual st c f fd) : Fun K x qual st f fd := by
  obtain ⟨oc, od, kV, doc, pm, an, ct, osl, h1, h2, h3⟩ := F.ex
  exact ⟨⟨oc, od, kV, doc, pm, an, .ref c, ct, osl, h1, h2, h3⟩, F.kp⟩
theorem FunC.ok {P : Program} {w : World} {K : PySem.W.Frag} {mg : Str → Option Value} {base : Heap} {x qual : Str} {st : Stmt} {c f : Addr} {fd : FuncData} {N ps : List Str} {k : Nat} {sp : Sp} (F : FunC K x qual st c f fd) (S : FnScope N ps (defScope st)) (len : ∀ vs H Q E, sp vs H Q E → vs.length = ps.length)
    (hbody : ∀ (A : Around) (outer : List Env) (s : Shared) (H : Hp) (vs : List V) (Q : VK) (E : XK), Room k (A.deeper (envOfC qual (defScope st) s.heap.objs.size f (.ref c))) → sp vs H Q E →
      ∃ t, PSs (cxOf CX0 P w K mg base N qual (defScope st) f (.ref c) A outer s H E).nox (defBody st) t ∧ t { nx := fun _ H' => Q .non H', rt := Q } (L2.start N vs) H) : FnOk P w K mg base CX0 (k + 1) f fd ps sp := by
  obtain ⟨oc, od, kV, doc, pm, an, ct, osl, rfl, lk, hcd⟩ := F.ex
  refine fn_of lk hcd S len fun A outer s H vs Q E hr hsp => ?_
  obtain ⟨t, h, q⟩ := hbody A outer s H vs Q E hr hsp
  exact ⟨t, h.nox, q⟩
structure FunAtC (K : PySem.W.Frag) (mg : Str → Option Value) (x : Str) (st : Stmt) (ps : List Str) (c : Addr) : Prop where
  ex : ∃ f fd, FunC K x x st c f fd ∧ mg x = some (.ref f) ∧ Binds K fd ps []
/-- the name of a lambda within a def -/
def lamQ (x : Str) : Str := (x ++ ".<locals>.") ++ "<lambda>"
section
variable {X : Cx} {K : PySem.W.Frag}
theorem pe_maxKey {T : List (Addr × Str)} {N fr : List Str} {js : List Nat} {y : Str} {e body : Expr} {te : TA} {tb : TE} {params : Arguments} {scope : Scope} {c P : Addr} {k : Nat} {p pos lpos kpos : Pos} (TB : TabB X.base X.mg c P) (hcode : X.env.code = .ref c) (hmT : (P, X.env.qual ++ "<lambda>") ∈ T) (hu : ∀ p ∈ T, p.1 = P → p.2 = X.env.qual ++ "<lambda>")
    (S : NScope N [y] fr scope) (hdef : defaultsOf params X.env = ([], [])) (hfree : ∀ y ∈ scope.names, y.2 = .free → X.env.scope.names.lookup y.1 = some .cell ∨ X.env.scope.names.lookup y.1 = some .free) (hfr : ∀ y ∈ fr, (y, NameKind.free) ∈ scope.names) (hjs : js.map (fun j => X.N[j]?) = fr.map some)
    (hbind : ∀ (q : Str) (cl : List (Str × Addr)) (pm cv ctv : Value) (u : Value), bindArgs (PySem.W.kla_fn "<lambda>" q params body scope cl pm cv ctv) ⟨[u], []⟩ = pure ([y].zip [u])) (hr : Room (k + 3) X.A) (hc : X.calm = true) (hm : X.mg "max" = none) (he : PA X [e] te)
    (hbody : ∀ (q : Str) (cl : List (Str × Addr)) (c' f : Addr) (A : Around) (outer : List Env) (s : Shared) (H : Hp), Room k (A.deeper (envF (lamN q params scope cl c') f s.heap.objs.size)) → PE (ncx CX0 X.prog X.w X.K X.mg X.base N (lamN q params scope cl c') f A outer s H E0) body tb)
    (hg : Gl X "max" := by rfl) (hK : X.K = K := by rfl)
    (hst : backTo pos (starEach [e] X.env) = (false, eval e X.env) :: backTo pos (starEach [] X.env) := by rfl) (hpl : (backTo pos (starEach [e] X.env)).any (·.1) = false := by rfl)
    (hall : (backToKw pos (keywordEach [⟨some "key", .Lambda params body scope lpos, kpos⟩] X.env)).all (·.1.isSome) = true := by rfl) (hnone : (backToKw pos (keywordEach [⟨some "key", .Lambda params body scope lpos, kpos⟩] X.env)).any (·.1.isNone) = false := by rfl)
    (hks : (backToKw pos (keywordEach [⟨some "key", .Lambda params body scope lpos, kpos⟩] X.env)).filterMap (·.1) = [Str.ofString "key"] := by rfl) :
    PE X (.Call (.Name "max" p) [e] [⟨some "key", .Lambda params body scope lpos, kpos⟩] pos) (tKeyL K T N js tb te rMaxKey) := by
  subst hK
  refine ⟨fun pins s σ H Q I h => ?_⟩
  refine wpAny_Call_Name_kw (ld_blt I hg hm (show bootBuiltins "max" = some (.builtin "max") by decide +kernel) ?_ (by decide) (by decide))
  refine PyProof.Rows.callWith_kw (thn (he.run pos pins s σ H _ I h) fun us s1 ⟨xs, H1, I1, r1, q1⟩ => ?_) hst hpl hall hnone
  obtain ⟨l, as, key, rfl, hl, hT, q1⟩ := q1
  obtain rfl : us = [Value.ref l] := Vals.ref1 r1
  have hf : ∀ y ∈ scope.names, y.2 = .free → ∃ c, X.env.cells.lookup y.1 = some c := fun y hy e => (hfree y hy e).elim (fun z => I1.ok.has _ (.inl z)) fun z => I1.ok.has _ (.inr z)
  show wpAny _ _ (evalAll [do let v ← eval (.Lambda params body scope lpos) X.env; standAt pos; pure v]) _ _ s1
  refine wpAny_evalAll_cons (wpAny_bind (lam_make2 I1 TB hcode hmT hu hT hdef hf fun f c' pm ctv H2 s2 I2 eN T2 hfo hfn hff hco => wpAny_bind (wpAny_standAt (wpAny_pure (wpAny_evalAll_nil ?_)))))
  rw [hks]
  obtain ⟨hl2, qb, hne, qm⟩ := q1 H2 eN T2
  have hcp : ∀ {H' : Hp} {s' : Shared}, Inv X pins σ H' s' → Caps X (cloFrom X.env.cells scope.names []) fr js := fun J => Caps.made J.ok hfree hfr hjs
  show wpAny _ _ (call (.builtin "max") [.ref l] [(Str.ofString "key", .ref f)]) _ _ s2
  refine max_key_run I2 (I2.ok.hd hc) hl2 hne _ hfo hfn hff (fun i a s3 H3 ha e3 I3 hfo3 hfn3 => ?_) qm
  exact lam_called (F := lamN (X.env.qual ++ "<lambda>") params scope (cloFrom X.env.cells scope.names []) c') (k := k + 1) (vs := [.ref a]) (us := [.ref a]) S (hcp I3) (hbind _ _ _ _ _ _) I3 hfo3 (e3 _ _ hco) I3.ok.frames (hr.in1.mono (by omega)) (.cons rfl .nil) rfl
    (fun A outer s H hr' => hbody _ _ _ f A outer s H (hr'.mono (by omega))) (qb i a H3 ha e3)
end
end Ps
end

section
set_option maxRecDepth 100000
set_option maxHeartbeats 2000000
namespace Ps
open PySem PySem.Spec PyProof.Rows L2 Evl LamX NdefX
/-! sorted by a key that turns the first of a pair round; max with a default; sorted downwards. -/
theorem ktsk (q a : Addr) : Builtin.«list.sort» ⟨[.ref a], [(Str.ofString "key", .ref q)]⟩ = ksk_tree a (.ref q) false := ksk_t1 q a
section
variable {P : Program} {w : World} {A : Around}
/-- lambda y: -y[0], called with a tuple -/
theorem neg_first {h : Heap} {tk0 : Nat} {s : Shared} {f t c : Addr} {y : Str} {name qual : Str} {params : Arguments} {scope : Scope} {cl : List (Str × Addr)} {pm ctv u : Value} {n : Int} {tk : Tok} {j : Nat} {p1 p2 p3 p4 : Pos} (hroom : A.depth < recursionLimit) (lim : h.NoLimit)
    (hf : h.get? f = some (PySem.W.kla_obj name qual params (.UnaryOp .USub (.Subscript (.Name y p1) (.Constant (.int 0) j p2) p3) p4) scope cl pm c ctv)) (hcd : h.CodeRec (.ref c) qual) (ht : IsTup h t #[.int n tk, u])
    (hbind : bindArgs (PySem.W.kla_fn name qual params (.UnaryOp .USub (.Subscript (.Name y p1) (.Constant (.int 0) j p2) p3) p4) scope cl pm (.ref c) ctv) ⟨[.ref t], []⟩ = pure [(y, .ref t)]) (hco : scope.isCoroutine = false) (hge : scope.isGenerator = false) (hk : scope.kind = .function)
    (hnc : ∀ x ∈ scope.names, x.2 ≠ .cell) (hy : scope.names.lookup y = some .local) (hd : (y == ("__debug__" : Str)) = false) :
    wpAny (model P w) A (call (.ref f) [.ref t]) (PySem.W.KeyPure (.int (-n)) { s with heap := h, toks := tk0 }) (fun _ _ => False) { s with heap := h, toks := tk0 } := by
  refine wpAny_call (PySem.W.kla_callFunE hroom hf rfl hco hge rfl hcd ?_)
  rw [hbind]
  refine wpAny_pure (wpAny_newFunctionEnv hnc (fun x hx => by rw [List.mem_singleton.mp hx]; exact hy) (fun h₁ hns hsb => ⟨lim.fresh _ hsb, ?_⟩) hk)
  have kp : ∀ b o, h.get? b = some o → h₁.get? b = some o := fun b o e => hsb.extBut b o (Nat.ne_of_lt (Heap.lt_size e)) (Heap.get?_push_of_some _ e)
  refine PySem.W.kla_codeExpr (UnaryOp_ (Subscript_Constant (wpAny_Name (wpAny_loadName_local hk hy hns (show ([(y, Value.ref t)].reverse.lookup y) = some (.ref t) from ?_) ?_) hd)))
  · show List.lookup y [(y, Value.ref t)] = some (.ref t)
    have e : (y == y) = true := beq_self_eq_true y
    simp only [List.lookup, e]
  · refine wpAny_Constant_int ⟨_, _, slot_tuple_getitem.lookup, (ht.keeps kp).typeIs, ?_⟩
    refine getItem_tuple (j := 0) (ht.keeps kp) (by decide) (by decide) rfl rfl ?_
    exact PySem.P.neg_int ⟨h₁, _, rfl, kp, .int _ _⟩
end
section
variable {X : Cx} {pins : List (Addr × Obj)} {σ : L2.St} {H : Hp} {s : Shared}
abbrev refs1 (bs : List (Addr × Int)) : List V := bs.map fun b => V.ref b.1
abbrev turned (bs : List (Addr × Int)) : List (Addr × Int) := bs.mergeSort fun a b => decide (-a.2 ≤ -b.2)
theorem each_refs {R : Value → Addr × Int → Prop} (hR : ∀ v b, R v b → v = .ref b.1) : ∀ {out : List Value} {bs : List (Addr × Int)}, PySem.W.EachIs R out bs → out = bs.map fun b => Value.ref b.1
  | _, _, .nil => rfl
  | _, _, .cons h t => by rw [hR _ _ h, each_refs hR t]; rfl
theorem vals_refs1 : ∀ (bs : List (Addr × Int)), Vals (refs1 bs) (bs.map fun b => Value.ref b.1)
  | [] => .nil
  | b :: bs => .cons rfl (vals_refs1 bs)
theorem vals_back1 : ∀ {bs : List (Addr × Int)} {us : List Value}, Vals (refs1 bs) us → us = bs.map fun b => Value.ref b.1
  | [], _, .nil => rfl
  | b :: bs, _, .cons r t => by
    have r : _ = Value.ref b.1 := r
    rw [r, vals_back1 t]; rfl
theorem each_of {R : Value → Addr × Int → Prop} : ∀ {bs : List (Addr × Int)}, (∀ b ∈ bs, R (.ref b.1) b) → PySem.W.EachIs R (bs.map fun b => Value.ref b.1) bs
  | [], _ => .nil
  | b :: bs, h => .cons (h b (List.mem_cons_self ..)) (each_of fun c hc => h c (List.mem_cons_of_mem _ hc))
/-- sorted(l, key=lambda y: -y[0]), l a list of tuples -/
theorem sort_key_run {l f c : Addr} {bs : List (Addr × Int)} {y : Str} {name qual : Str} {params : Arguments} {scope : Scope} {cl : List (Str × Addr)} {pm ctv : Value} {j k : Nat} {p1 p2 p3 p4 : Pos} {Q : VK} (I : Inv X pins σ H s) (hr : Room (k + 3) X.A) (hl : SqL X.K H l (refs1 bs)) (ht : ∀ b ∈ bs, ∃ w, SqT X.K H b.1 [.int b.2, w])
    (hf : s.heap.get? f = some (PySem.W.kla_obj name qual params (.UnaryOp .USub (.Subscript (.Name y p1) (.Constant (.int 0) j p2) p3) p4) scope cl pm c ctv)) (hc : H c = some (CodeO c qual))
    (hbind : ∀ u : Value, bindArgs (PySem.W.kla_fn name qual params (.UnaryOp .USub (.Subscript (.Name y p1) (.Constant (.int 0) j p2) p3) p4) scope cl pm (.ref c) ctv) ⟨[u], []⟩ = pure [(y, u)]) (hco : scope.isCoroutine = false) (hge : scope.isGenerator = false) (hk : scope.kind = .function)
    (hnc : ∀ x ∈ scope.names, x.2 ≠ .cell) (hy : scope.names.lookup y = some .local) (hd : (y == ("__debug__" : Str)) = false)
    (q : ∀ p, H p = none → Q (.ref p) (upd H p (.lst (refs1 (turned bs))))) :
    wpAny (model X.prog X.w) X.A (call (.builtin "sorted") [.ref l] [(Str.ofString "key", .ref f)]) (EP X pins σ Q) X.xe s := by
  obtain ⟨its, rv, pl, hz⟩ := I.list hl
  have ei := vals_back1 rv
  subst ei
  have hlen : bs.length ≤ sizeLine := by rw [List.length_map] at hz; exact hz
  have lim := I.nolimit
  have hun := hr.un
  refine PySem.W.sorted_key_data (β := Addr × Int) (R := fun v b => v = .ref b.1 ∧ ∃ tk u, IsTup s.heap b.1 #[.int b.2 tk, u]) (bs := bs) (b := false) (fun b => .int (-b.2)) pl.isList (each_of fun b hb => ⟨rfl, ?_⟩) (PySem.W.AllAlike.of fun _ _ => by simp [PySem.W.alike]) (PySem.W.Sortable.others fun b => ⟨by simp, fun xs => by simp⟩) hlen
    (fun b _ => by show X.A.units + 2 + 0 < cLine; omega) (ksk_s1 _ _) (fun _ => ksk_l1 _ _) (fun a => ktsk f a) (fun v b hR hb h tk kp => ?_) (fun out cc h' tk kp hn hD ho he => ?_)
  · obtain ⟨w, hw⟩ := ht b hb
    obtain ⟨its, r, pt, _⟩ := I.tuple hw
    obtain ⟨u1, u2, rfl, e1, e2⟩ := vals2 r
    obtain ⟨t1, rfl⟩ := e1
    exact ⟨t1, u2, pt⟩
  · obtain ⟨rfl, t1, u2, pt⟩ := hR
    have hrd := hr.in1.in1.depth
    refine neg_first hrd (lim.keeps kp) (kp _ _ hf) ?_ (pt.keeps kp) (hbind _) hco hge hk hnc hy hd
    obtain ⟨c2, oc, vs, t, e1, e2, e3, e4⟩ := codeO_at I.hok hc
    exact ⟨c2, oc, vs, t, e1, kp _ _ e2, e3, e4⟩
  · have eo : out = (turned bs).map fun b => Value.ref b.1 := by
      have := each_refs (fun v b h => h.1) he
      rw [PySem.W.dataLe_int (fun b : Addr × Int => -b.2)] at this
      exact this
    subst eo
    have hH : H (s.heap.objs.size + 1) = none := I.hok.fresh (Nat.le_succ _)
    refine ⟨.ref _, upd H (s.heap.objs.size + 1) (.lst (refs1 (turned bs))), I.laid (t' := tk) kp (Nat.le_succ _) ⟨?_, _, cc, vals_refs1 _, hD⟩, rfl, q _ hH⟩
    rw [List.length_map, List.length_mergeSort]
    exact hlen
end
/-- sorted(e, key=lambda y: -y[0]) -/
def tSortL (K : PySem.W.Frag) (T : List (Addr × Str)) (te : TA) : TE := fun σ H Q => te σ H fun xs H1 => ∃ (l : Addr) (bs : List (Addr × Int)), xs = [.ref l] ∧ Tabs T H1 ∧
  ∀ H2, ExtN H1 H2 → Tabs T H2 → SqL K H2 l (refs1 bs) ∧ (∀ b ∈ bs, ∃ w, SqT K H2 b.1 [.int b.2, w]) ∧ ∀ p, H2 p = none → Q (.ref p) (upd H2 p (.lst (refs1 (turned bs))))
section
variable {X : Cx} {K : PySem.W.Frag}
theorem pe_sortKey {T : List (Addr × Str)} {y : Str} {e : Expr} {te : TA} {params : Arguments} {scope : Scope} {c P : Addr} {j k : Nat} {p pos lpos kpos p1 p2 p3 p4 : Pos} (TB : TabB X.base X.mg c P) (hcode : X.env.code = .ref c) (hmT : (P, X.env.qual ++ "<lambda>") ∈ T) (hu : ∀ p ∈ T, p.1 = P → p.2 = X.env.qual ++ "<lambda>")
    (hdef : defaultsOf params X.env = ([], [])) (hnf : ∀ y ∈ scope.names, y.2 ≠ .free) (hnc : ∀ y ∈ scope.names, y.2 ≠ .cell) (hy : scope.names.lookup y = some .local) (hco : scope.isCoroutine = false) (hge : scope.isGenerator = false) (hk : scope.kind = .function) (hd : (y == ("__debug__" : Str)) = false)
    (hbind : ∀ (q : Str) (cl : List (Str × Addr)) (pm cv ctv : Value) (u : Value), bindArgs (PySem.W.kla_fn "<lambda>" q params (.UnaryOp .USub (.Subscript (.Name y p1) (.Constant (.int 0) j p2) p3) p4) scope cl pm cv ctv) ⟨[u], []⟩ = pure [(y, u)]) (hr : Room (k + 3) X.A) (hm : X.mg "sorted" = none) (he : PA X [e] te)
    (hg : Gl X "sorted" := by rfl) (hK : X.K = K := by rfl)
    (hst : backTo pos (starEach [e] X.env) = (false, eval e X.env) :: backTo pos (starEach [] X.env) := by rfl) (hpl : (backTo pos (starEach [e] X.env)).any (·.1) = false := by rfl)
    (hall : (backToKw pos (keywordEach [⟨some "key", .Lambda params (.UnaryOp .USub (.Subscript (.Name y p1) (.Constant (.int 0) j p2) p3) p4) scope lpos, kpos⟩] X.env)).all (·.1.isSome) = true := by rfl)
    (hnone : (backToKw pos (keywordEach [⟨some "key", .Lambda params (.UnaryOp .USub (.Subscript (.Name y p1) (.Constant (.int 0) j p2) p3) p4) scope lpos, kpos⟩] X.env)).any (·.1.isNone) = false := by rfl)
    (hks : (backToKw pos (keywordEach [⟨some "key", .Lambda params (.UnaryOp .USub (.Subscript (.Name y p1) (.Constant (.int 0) j p2) p3) p4) scope lpos, kpos⟩] X.env)).filterMap (·.1) = [Str.ofString "key"] := by rfl) :
    PE X (.Call (.Name "sorted" p) [e] [⟨some "key", .Lambda params (.UnaryOp .USub (.Subscript (.Name y p1) (.Constant (.int 0) j p2) p3) p4) scope lpos, kpos⟩] pos) (tSortL K T te) := by
  subst hK
  refine ⟨fun pins s σ H Q I h => ?_⟩
  refine wpAny_Call_Name_kw (ld_blt I hg hm (show bootBuiltins "sorted" = some (.builtin "sorted") by decide +kernel) ?_ (by decide) (by decide))
  refine PyProof.Rows.callWith_kw (thn (he.run pos pins s σ H _ I h) fun us s1 ⟨xs, H1, I1, r1, q1⟩ => ?_) hst hpl hall hnone
  obtain ⟨l, bs, rfl, hT, q1⟩ := q1
  obtain rfl : us = [Value.ref l] := Vals.ref1 r1
  show wpAny _ _ (evalAll [do let v ← eval (.Lambda params (.UnaryOp .USub (.Subscript (.Name y p1) (.Constant (.int 0) j p2) p3) p4) scope lpos) X.env; standAt pos; pure v]) _ _ s1
  refine wpAny_evalAll_cons (wpAny_bind (lam_make2 I1 TB hcode hmT hu hT hdef (fun y hy e => absurd e (hnf y hy)) fun f c' pm ctv H2 s2 I2 eN T2 hfo hfn hff hco2 => wpAny_bind (wpAny_standAt (wpAny_pure (wpAny_evalAll_nil ?_)))))
  rw [hks]
  obtain ⟨hl2, ht2, qm⟩ := q1 H2 eN T2
  show wpAny _ _ (call (.builtin "sorted") [.ref l] [(Str.ofString "key", .ref f)]) _ _ s2
  exact sort_key_run I2 hr hl2 ht2 hfo hco2 (hbind _ _ _ _ _) hco hge hk hnc hy hd qm
def maxOr (d : Int) : List Int → Int
  | [] => d
  | n :: r => r.foldl max n
/-- max(l, default=d), l a list of ints -/
def rMaxD (K : PySem.W.Frag) : List V → List V → Hp → VK → Prop := fun vs zs H Q => ∃ (a : Addr) (ns : List Int) (d : Int), vs = [V.ref a] ∧ zs = [.int d] ∧ SqL K H a (ns.map V.int) ∧ Q (.int (maxOr d ns)) H
theorem readsAll_ints {h : Heap} : ∀ {ns : List Int} {us : List Value}, Vals (ns.map V.int) us → ∃ as, ReadsAll h us (ns.map PyData.int) as
  | [], _, .nil => ⟨_, .nil⟩
  | n :: ns, _, .cons r t => by
    obtain ⟨tk, e⟩ := r
    obtain ⟨as, q⟩ := readsAll_ints (h := h) t
    subst e
    exact ⟨_, .cons (.int n tk) q⟩
theorem alikeI (ns : List Int) : PySem.W.AlikeAll (ns.map PyData.int) := by
  refine ⟨fun x hx z hz => ?_, fun x hx => ?_⟩
  · obtain ⟨a, _, rfl⟩ := List.mem_map.mp hx
    obtain ⟨b, _, rfl⟩ := List.mem_map.mp hz
    simp [PySem.W.alike]
  · obtain ⟨a, _, rfl⟩ := List.mem_map.mp hx
    simp
theorem cr_maxD {k : Nat} (hr : Room k X.A) (hc : X.calm = true := by rfl) (hK : X.K = K := by rfl) : CallRK X (.builtin "max") [Str.ofString "default"] (rMaxD K) := by
  subst hK
  intro pins s σ H vs zs us ws Q I r rz h
  obtain ⟨a, ns, d, rfl, rfl, hs, q⟩ := h
  obtain rfl := Vals.ref1 r
  obtain ⟨w1, rfl, e1⟩ := vals1 rz
  obtain ⟨td, rfl⟩ : ∃ t, w1 = Value.int d t := e1
  obtain ⟨its, rv, hl, _⟩ := I.list hs
  obtain ⟨as, hra⟩ := readsAll_ints (h := s.heap) rv
  have hun := hr.un
  refine PySem.W.max_list_default (xs := ns.map PyData.int) (as := as) (I.ok.hd hc) hl.isList (show ReadsAll s.heap its.toArray.toList _ as by simpa using hra) (alikeI ns) (by rw [PySem.W.depth_ints]; omega) (fun h0 h' tk hk => ?_) (fun y ys i v h' tk bs hy hv hrd hk => ?_)
  · cases ns with
    | nil => exact ⟨.int d, H, I.kept hk, ⟨td, rfl⟩, q⟩
    | cons n r => cases h0
  · cases ns with
    | nil => cases hy
    | cons n r =>
      cases hy
      have := PySem.W.maxD_ints n r
      rw [this] at hrd
      cases hrd with
      | int i t => exact ⟨.int _, H, I.kept hk, ⟨t, rfl⟩, q⟩
theorem sortedRevK {b : Bool} (hK : X.K = K := by rfl) : CallRK X (.builtin "sorted") [Str.ofString "reverse"] (rSortedKw K b [.bl b]) := by
  subst hK; exact cr_sortedRev
end
end Ps
end

section
set_option maxRecDepth 100000
set_option maxHeartbeats 2000000
namespace Ps
open Kp430
/-! What the specification says of slates, in other words. -/
/-! ### what no longer beginning can repair -/
theorem mem_pairs {n i j : Nat} : (i, j) ∈ pairsOf n ↔ i < j ∧ j < n := by
  unfold pairsOf
  simp only [List.mem_flatMap, List.mem_range, List.mem_map, List.mem_filter, decide_eq_true_eq]
  constructor
  · rintro ⟨a, ha, b, ⟨hb, hab⟩, e⟩
    cases e
    exact ⟨hab, hb⟩
  · rintro ⟨h1, h2⟩
    exact ⟨i, by omega, j, ⟨h2, h1⟩, rfl⟩
theorem none_find {α β : Type} {l : List α} {f : α → Bool} {g : α → β} : ((l.find? f).map g).isNone = true ↔ ∀ x ∈ l, f x = false := by
  rw [Option.isNone_iff_eq_none, Option.map_eq_none_iff, List.find?_eq_none]
  constructor
  · intro h x hx
    have := h x hx
    cases e : f x
    · rfl
    · exact absurd e this
  · intro h x hx e
    rw [h x hx] at e; cases e
theorem count_app {p : Page} {s m : List Nat} (f : Nat → Bool) : s.countP f ≤ (s ++ m).countP f := by
  rw [List.countP_append]; omega
theorem many_app {p : Page} {s m : List Nat} (h : (manyViolation p (s ++ m)).isNone = true) : (manyViolation p s).isNone = true := by
  unfold manyViolation at h ⊢
  rw [none_find] at h ⊢
  intro g hg
  have := h g hg
  rw [decide_eq_false_iff_not] at this ⊢
  have hc : countGroup p s g ≤ countGroup p (s ++ m) g := by
    unfold countGroup; exact count_app (p := p) _
  omega
theorem creator_app {p : Page} {s m : List Nat} (h : (creatorViolation p (s ++ m)).isNone = true) : (creatorViolation p s).isNone = true := by
  unfold creatorViolation at h ⊢
  rw [none_find] at h ⊢
  intro c hc
  have := h c (List.mem_append_left m hc)
  rw [decide_eq_false_iff_not] at this ⊢
  have hc := count_app (p := p) (s := s) (m := m) fun d => (at_ p d).creator == (at_ p c).creator
  omega
theorem near_app {p : Page} {s m : List Nat} (h : (nearViolation p (s ++ m)).isNone = true) : (nearViolation p s).isNone = true := by
  unfold nearViolation at h ⊢
  rw [none_find] at h ⊢
  rintro ⟨i, j⟩ hx
  obtain ⟨h1, h2⟩ := mem_pairs.mp hx
  have := h (i, j) (mem_pairs.mpr ⟨h1, by rw [List.length_append]; omega⟩)
  have e : ∀ k, k < s.length → (s ++ m).getD k 0 = s.getD k 0 := fun k hk => by
    rw [List.getD_eq_getElem?_getD, List.getD_eq_getElem?_getD, List.getElem?_append_left hk]
  simp only [e i (by omega), e j h2] at this
  exact this
theorem pair_app {p : Page} {s m : List Nat} (h : (pairViolation p (s ++ m)).isNone = true) : (pairViolation p s).isNone = true := by
  unfold pairViolation at h ⊢
  rw [none_find] at h ⊢
  intro x hx
  have := h x hx
  rw [Bool.and_eq_false_iff] at this ⊢
  rcases this with q | q
  · refine .inl ?_
    cases e : s.contains x.1
    · rfl
    · rw [List.contains_iff_mem] at e
      have : (s ++ m).contains x.1 = true := List.contains_iff_mem.mpr (List.mem_append_left m e)
      rw [this] at q; cases q
  · refine .inr ?_
    cases e : s.contains x.2
    · rfl
    · rw [List.contains_iff_mem] at e
      have : (s ++ m).contains x.2 = true := List.contains_iff_mem.mpr (List.mem_append_left m e)
      rw [this] at q; cases q
def pinsAll (p : Page) (s : List Nat) : Bool := (List.range s.length).all fun k => match pinAt p k with
  | none => true
  | some c => s[k]? == some c
theorem pins_app {p : Page} {s m : List Nat} (h : pinsAll p (s ++ m) = true) : pinsAll p s = true := by
  unfold pinsAll at h ⊢
  rw [List.all_eq_true] at h ⊢
  intro k hk
  have hk2 := List.mem_range.mp hk
  have := h k (List.mem_range.mpr (by rw [List.length_append]; omega))
  cases e : pinAt p k with
  | none => rfl
  | some c =>
    rw [e] at this
    rw [List.getElem?_append_left hk2] at this
    exact this
theorem poss_is (p : Page) (s : List Nat) : isPossible p s = (pinsAll p s && (manyViolation p s).isNone && (creatorViolation p s).isNone && (nearViolation p s).isNone && (pairViolation p s).isNone) := rfl
theorem poss_app {p : Page} {s m : List Nat} (h : isPossible p (s ++ m) = true) : isPossible p s = true := by
  rw [poss_is] at h ⊢
  simp only [Bool.and_eq_true] at h ⊢
  obtain ⟨⟨⟨⟨h1, h2⟩, h3⟩, h4⟩, h5⟩ := h
  exact ⟨⟨⟨⟨pins_app h1, many_app h2⟩, creator_app h3⟩, near_app h4⟩, pair_app h5⟩
theorem some_none {α : Type} {l : List (Option α)} (h : (l.findSome? id).isNone = true) : ∀ x ∈ l, x.isNone = true := by
  rw [Option.isNone_iff_eq_none, List.findSome?_eq_none_iff] at h
  intro x hx
  rw [Option.isNone_iff_eq_none]
  exact h x hx
theorem feas_poss {p : Page} {s : List Nat} (h : isFeasible p s = true) : isPossible p s = true := by
  unfold isFeasible at h
  rw [Bool.and_eq_true] at h
  obtain ⟨hs, hv⟩ := h
  have hl : s.length = positions p := by
    unfold isSlate at hs
    simp only [Bool.and_eq_true, beq_iff_eq] at hs
    exact hs.1.1
  have q := some_none (show ([pinViolation p s, manyViolation p s, fewViolation p s, creatorViolation p s, nearViolation p s, pairViolation p s, freshViolation p s].findSome? id).isNone = true from hv)
  have q1 := q (pinViolation p s) (by simp)
  rw [← pinV_slate hl, pinV_none] at q1
  rw [poss_is]
  simp only [Bool.and_eq_true]
  exact ⟨⟨⟨⟨q1, q _ (by simp)⟩, q _ (by simp)⟩, q _ (by simp)⟩, q _ (by simp)⟩
/-! ### all slates, however few beginnings are followed -/
def full (p : Page) : Nat → Slate → List Slate
  | 0, s => [s]
  | n + 1, s => ((Kp430.all p).filter fun c => !s.contains c).flatMap fun c => full p n (s ++ [c])
/-- only beginnings that P lets through are followed -/
def pruned (P : Slate → Bool) (p : Page) : Nat → Slate → List Slate
  | 0, s => [s]
  | n + 1, s => if P s = false then [] else ((Kp430.all p).filter fun c => !s.contains c).flatMap fun c => pruned P p n (s ++ [c])
theorem full_ext {p : Page} : ∀ {n : Nat} {s t : Slate}, t ∈ full p n s → ∃ m, t = s ++ m ∧ m.length = n
  | 0, s, t, h => ⟨[], by rw [List.mem_singleton.mp h, List.append_nil], rfl⟩
  | n + 1, s, t, h => by
    obtain ⟨c, _, h⟩ := List.mem_flatMap.mp h
    obtain ⟨m, e, hm⟩ := full_ext h
    exact ⟨c :: m, by rw [e, List.append_assoc]; rfl, by rw [List.length_cons, hm]⟩
theorem filter_flatMap {α β : Type} (f : α → List β) (g : β → Bool) : ∀ l : List α, (l.flatMap f).filter g = l.flatMap fun a => (f a).filter g
  | [] => rfl
  | a :: l => by rw [List.flatMap_cons, List.filter_append, filter_flatMap f g l, List.flatMap_cons]
theorem prune_any {P : Slate → Bool} {p : Page} (hP : ∀ s m, isFeasible p (s ++ m) = true → P s = true) : ∀ (n : Nat) (s : Slate), (pruned P p n s).filter (isFeasible p) = (full p n s).filter (isFeasible p)
  | 0, s => rfl
  | n + 1, s => by
    cases e : P s with
    | false =>
      have h0 : pruned P p (n + 1) s = [] := if_pos e
      rw [h0]
      symm
      rw [List.filter_nil, List.filter_eq_nil_iff]
      intro t ht hf
      obtain ⟨m, rfl, _⟩ := full_ext ht
      rw [hP s m hf] at e
      cases e
    | true =>
      have h0 : pruned P p (n + 1) s = ((Kp430.all p).filter fun c => !s.contains c).flatMap fun c => pruned P p n (s ++ [c]) := if_neg (by rw [e]; decide)
      rw [h0]
      show _ = (((Kp430.all p).filter fun c => !s.contains c).flatMap fun c => full p n (s ++ [c])).filter (isFeasible p)
      rw [filter_flatMap, filter_flatMap]
      congr 1
      funext c
      exact prune_any hP n (s ++ [c])
theorem complete_is (p : Page) : ∀ (n : Nat) (s : Slate), complete p n s = pruned (isPossible p) p n s
  | 0, s => rfl
  | n + 1, s => by
    unfold complete pruned
    split
    · rfl
    · congr 1
      funext c
      exact complete_is p n (s ++ [c])
theorem feasible_full (p : Page) : feasible p = (full p (positions p) []).filter (isFeasible p) := by
  unfold feasible
  rw [complete_is]
  exact prune_any (fun s m h => poss_app (feas_poss h)) _ _
theorem full_len (p : Page) (hc : p.candidates.length ≤ 9) : ∀ (n : Nat) (s : Slate), (full p n s).length ≤ 9 ^ n
  | 0, s => Nat.le_refl 1
  | n + 1, s => by
    have key : ∀ l : List Nat, (l.flatMap fun c => full p n (s ++ [c])).length ≤ l.length * 9 ^ n := by
      intro l
      induction l with
      | nil => simp
      | cons a l ih =>
        rw [List.flatMap_cons, List.length_append, List.length_cons, Nat.succ_mul]
        have := full_len p hc n (s ++ [a])
        omega
    refine Nat.le_trans (key _) ?_
    have : ((Kp430.all p).filter fun c => !s.contains c).length ≤ 9 := Nat.le_trans (List.length_filter_le _ _) (by unfold Kp430.all; rw [List.length_range]; exact hc)
    rw [Nat.pow_succ, Nat.mul_comm]
    exact Nat.mul_le_mul_left _ this
theorem full_nodup {p : Page} : ∀ {n : Nat} {s t : Slate}, (∀ c ∈ s, c < p.candidates.length) → s.Nodup → t ∈ full p n s → (∀ c ∈ t, c < p.candidates.length) ∧ t.Nodup
  | 0, s, t, h1, h2, h => by rw [List.mem_singleton.mp h]; exact ⟨h1, h2⟩
  | n + 1, s, t, h1, h2, h => by
    obtain ⟨c, hc, h⟩ := List.mem_flatMap.mp h
    obtain ⟨hc1, hc2⟩ := List.mem_filter.mp hc
    refine full_nodup (fun d hd => ?_) ?_ h
    · rcases List.mem_append.mp hd with hd | hd
      · exact h1 d hd
      · rw [List.mem_singleton.mp hd]; exact List.mem_range.mp hc1
    · rw [List.nodup_append]
      refine ⟨h2, by simp, fun a ha b hb e => ?_⟩
      rw [List.mem_singleton.mp hb] at e
      rw [e] at ha
      rw [List.contains_iff_mem.mpr ha] at hc2
      cases hc2
/-! ### the first with the greatest key -/
def better (key : Nat → Nat) (o : Option Nat) (c : Nat) : Option Nat := match o with
  | none => some c
  | some d => if key d < key c then some c else some d
theorem argMax_some (key : Nat → Nat) : ∀ (l : List Nat) (d : Nat), l.foldl (better key) (some d) = (match argMax key l with
    | none => some d
    | some e => if key d < key e then some e else some d)
  | [], d => rfl
  | c :: l, d => by
    show l.foldl (better key) (if key d < key c then some c else some d) = _
    have e : argMax key (c :: l) = match argMax key l with
      | none => some c
      | some d => if key c < key d then some d else some c := rfl
    rw [e]
    by_cases h : key d < key c
    · rw [if_pos h, argMax_some key l c]
      cases argMax key l with
      | none => simp only; rw [if_pos h]
      | some x =>
        simp only
        by_cases h2 : key c < key x
        · rw [if_pos h2]
          simp only
          rw [if_pos (by omega)]
        · rw [if_neg h2]
          simp only
          rw [if_pos h]
    · rw [if_neg h, argMax_some key l d]
      cases argMax key l with
      | none => simp only; rw [if_neg h]
      | some x =>
        simp only
        by_cases h2 : key c < key x
        · rw [if_pos h2]
        · rw [if_neg h2]
          simp only
          rw [if_neg h, if_neg (by omega)]
theorem argMax_fold (key : Nat → Nat) (l : List Nat) : argMax key l = l.foldl (better key) none := by
  cases l with
  | nil => rfl
  | cons c l =>
    show _ = l.foldl (better key) (some c)
    rw [argMax_some]
    rfl
/-! ### the best slates -/
theorem go_take (p : Page) (s : Slate) : ∀ (l : List Slate) (k : Nat), (insertSlate.go p s (l.take k)).take k = (insertSlate.go p s l).take k
  | [], k => by rw [List.take_nil]
  | t :: l, 0 => by simp
  | t :: l, k + 1 => by
    rw [List.take_succ_cons]
    unfold insertSlate.go
    split
    · rw [List.take_succ_cons, List.take_succ_cons]
      congr 1
      cases k with
      | zero => rfl
      | succ k => rw [List.take_succ_cons, List.take_succ_cons, List.take_take, Nat.min_eq_left (by omega)]
    · rw [List.take_succ_cons, List.take_succ_cons, go_take p s l k]
/-- all in the order of the best, equal values as they come -/
def ranked (p : Page) (l : List Slate) : List Slate := l.foldl (fun acc s => insertSlate.go p s acc) []
theorem best_fold (p : Page) (k : Nat) : ∀ (l acc : List Slate), l.foldl (fun (l : List Slate) (s : Slate) => insertSlate p k s l) (acc.take k) = (l.foldl (fun acc s => insertSlate.go p s acc) acc).take k
  | [], acc => rfl
  | s :: l, acc => by
    rw [List.foldl_cons, List.foldl_cons, ← best_fold p k l]
    congr 1
    exact go_take p s acc k
theorem best_ranked (p : Page) (k : Nat) : best p k = (ranked p (feasible p)).take k := by
  have := best_fold p k (feasible p) []
  rw [List.take_nil] at this
  exact this
theorem go_len (p : Page) (s : Slate) : ∀ l : List Slate, (insertSlate.go p s l).length = l.length + 1
  | [] => rfl
  | t :: l => by
    unfold insertSlate.go
    split
    · rfl
    · rw [List.length_cons, go_len p s l, List.length_cons]
theorem ranked_len (p : Page) (l : List Slate) : (ranked p l).length = l.length := by
  have : ∀ (l acc : List Slate), (l.foldl (fun acc s => insertSlate.go p s acc) acc).length = acc.length + l.length := by
    intro l
    induction l with
    | nil => intro acc; rfl
    | cons s l ih => intro acc; rw [List.foldl_cons, ih, go_len, List.length_cons]; omega
  have := this l []
  rw [List.length_nil, Nat.zero_add] at this
  exact this
/-- the first of the greatest value -/
def firstBest (p : Page) (o : Option Slate) (s : Slate) : Option Slate := match o with
  | none => some s
  | some t => if value p t < value p s then some s else some t
theorem go_head (p : Page) (s : Slate) (l : List Slate) : (insertSlate.go p s l).head? = firstBest p l.head? s := by
  cases l with
  | nil => rfl
  | cons t l =>
    unfold insertSlate.go firstBest
    show (if value p t < value p s then s :: t :: l else t :: insertSlate.go p s l).head? = (if value p t < value p s then some s else some t)
    split <;> rfl
theorem ranked_head (p : Page) : ∀ (l acc : List Slate), (l.foldl (fun acc s => insertSlate.go p s acc) acc).head? = l.foldl (firstBest p) acc.head?
  | [], acc => rfl
  | s :: l, acc => by rw [List.foldl_cons, List.foldl_cons, ranked_head p l, go_head]
theorem bestValue_is (p : Page) : bestValue p = ((feasible p).foldl (firstBest p) none).map (value p) := by
  unfold bestValue
  rw [best_ranked, List.head?_take, if_neg (by decide)]
  have := ranked_head p (feasible p) []
  rw [show (ranked p (feasible p)).head? = (feasible p).foldl (firstBest p) none from this]
/-- the greatest value alone -/
def moreOf (o : Option Nat) (n : Nat) : Option Nat := match o with
  | none => some n
  | some m => if m < n then some n else some m
theorem firstBest_value (p : Page) : ∀ (l : List Slate) (o : Option Slate), (l.foldl (firstBest p) o).map (value p) = (l.map (value p)).foldl moreOf (o.map (value p))
  | [], o => rfl
  | s :: l, o => by
    rw [List.foldl_cons, firstBest_value p l, List.map_cons, List.foldl_cons]
    congr 1
    cases o with
    | none => rfl
    | some t =>
      unfold firstBest moreOf
      show (if value p t < value p s then some s else some t).map (value p) = if value p t < value p s then some (value p s) else some (value p t)
      split <;> rfl
theorem bestValue_more (p : Page) : bestValue p = ((feasible p).map (value p)).foldl moreOf none := by
  rw [bestValue_is, firstBest_value]; rfl
theorem more_max : ∀ (l : List Nat) (m : Nat), l.foldl moreOf (some m) = some (l.foldl max m)
  | [], m => rfl
  | n :: l, m => by
    rw [List.foldl_cons, List.foldl_cons]
    show l.foldl moreOf (if m < n then some n else some m) = _
    by_cases h : m < n
    · rw [if_pos h, more_max l n, Nat.max_eq_right (by omega)]
    · rw [if_neg h, more_max l m, Nat.max_eq_left (by omega)]
theorem max_start : ∀ (l : List Nat) (m : Nat), l.foldl max m = max m (l.foldl max 0)
  | [], m => by simp
  | n :: l, m => by
    rw [List.foldl_cons, List.foldl_cons, max_start l (max m n), max_start l (max 0 n)]
    omega
/-! ### down by size -/
theorem down_perm (x : Nat) : ∀ l : List Nat, (insertDown x l).Perm (x :: l)
  | [] => List.Perm.refl _
  | y :: l => by
    unfold insertDown
    split
    · exact List.Perm.refl _
    · exact (List.Perm.cons y (down_perm x l)).trans (List.Perm.swap x y l)
theorem down_sorted (x : Nat) : ∀ {l : List Nat}, l.Pairwise (fun a b => b ≤ a) → (insertDown x l).Pairwise (fun a b => b ≤ a)
  | [], _ => by unfold insertDown; exact List.pairwise_singleton _ _
  | y :: l, h => by
    unfold insertDown
    obtain ⟨h1, h2⟩ := List.pairwise_cons.mp h
    split
    · rename_i hlt
      refine List.pairwise_cons.mpr ⟨fun a ha => ?_, h⟩
      rcases List.mem_cons.mp ha with rfl | ha
      · omega
      · have := h1 a ha; omega
    · rename_i hge
      refine List.pairwise_cons.mpr ⟨fun a ha => ?_, down_sorted x h2⟩
      rcases List.mem_cons.mp ((down_perm x l).mem_iff.mp ha) with rfl | ha
      · omega
      · exact h1 a ha
theorem downs : ∀ (l acc : List Nat), acc.Pairwise (fun a b => b ≤ a) → (l.foldl (fun (l : List Nat) (x : Nat) => insertDown x l) acc).Pairwise (fun a b => b ≤ a) ∧ (l.foldl (fun (l : List Nat) (x : Nat) => insertDown x l) acc).Perm (acc ++ l)
  | [], acc, h => ⟨h, by rw [List.append_nil]; exact List.Perm.refl _⟩
  | x :: l, acc, h => by
    obtain ⟨h1, h2⟩ := downs l (insertDown x acc) (down_sorted x h)
    refine ⟨h1, h2.trans ?_⟩
    refine ((down_perm x acc).append_right l).trans ?_
    rw [List.cons_append]
    exact List.perm_middle.symm
/-- whatever is in order downwards and holds the same is the same -/
theorem down_eq {l m : List Nat} (h1 : l.Pairwise (fun a b => b ≤ a)) (h2 : m.Pairwise (fun a b => b ≤ a)) (h : l.Perm m) : l = m :=
  h.eq_of_pairwise (le := fun a b => b ≤ a) (fun a b _ _ q1 q2 => Nat.le_antisymm q2 q1) h1 h2
end Ps
end

section
set_option maxRecDepth 100000
set_option maxHeartbeats 2000000
namespace Ps
open Kp430
/-! The program's own complete search, as plain lists. -/
abbrev crOf (p : Page) (c : Nat) : Nat := (at_ p c).creator
/-- what a pin leaves -/
def choiceAt (p : Page) (k : Nat) : List Nat := match pinAt p k with
  | none => List.range p.candidates.length
  | some c => [c]
def closeTo (p : Page) (s : Slate) : List Nat := (s.drop (s.length + 1 - p.spacing)).map (crOf p)
def okStep (p : Page) (s : Slate) (c : Nat) : Bool := !s.contains c && !(closeTo p s).contains (crOf p c)
def stretch (p : Page) (k : Nat) (bs : List Slate) : List Slate := bs.flatMap fun s => ((choiceAt p k).filter (okStep p s)).map fun c => s ++ [c]
/-- as the program goes: all of one length, then all of the next -/
def layers (p : Page) : Nat → Nat → List Slate → List Slate
  | 0, _, bs => bs
  | n + 1, k, bs => layers p n (k + 1) (stretch p k bs)
def arranged (p : Page) : List Slate := layers p (positions p) 0 [[]]
/-- one beginning after another -/
def tree (p : Page) : Nat → Slate → List Slate
  | 0, s => [s]
  | n + 1, s => ((choiceAt p s.length).filter (okStep p s)).flatMap fun c => tree p n (s ++ [c])
theorem stretch_len {p : Page} {k : Nat} {bs : List Slate} (h : ∀ s ∈ bs, s.length = k) : ∀ s ∈ stretch p k bs, s.length = k + 1 := by
  intro s hs
  unfold stretch at hs
  obtain ⟨t, ht, hs⟩ := List.mem_flatMap.mp hs
  obtain ⟨c, _, rfl⟩ := List.mem_map.mp hs
  rw [List.length_append, h t ht]; rfl
theorem layers_tree (p : Page) : ∀ (n k : Nat) (bs : List Slate), (∀ s ∈ bs, s.length = k) → layers p n k bs = bs.flatMap (tree p n)
  | 0, k, bs, _ => by
    show bs = bs.flatMap fun s => [s]
    rw [List.flatMap_singleton']
  | n + 1, k, bs, h => by
    show layers p n (k + 1) (stretch p k bs) = _
    rw [layers_tree p n (k + 1) _ (stretch_len h)]
    unfold stretch
    rw [List.flatMap_assoc]
    have : ∀ l : List Slate, (∀ s ∈ l, s.length = k) → (l.flatMap fun s => (((choiceAt p k).filter (okStep p s)).map fun c => s ++ [c]).flatMap (tree p n)) = l.flatMap (tree p (n + 1)) := by
      intro l
      induction l with
      | nil => intro _; rfl
      | cons s l ih =>
        intro hl
        rw [List.flatMap_cons, List.flatMap_cons, ih fun t ht => hl t (List.mem_cons_of_mem _ ht)]
        congr 1
        rw [List.flatMap_map]
        show _ = ((choiceAt p s.length).filter (okStep p s)).flatMap fun c => tree p n (s ++ [c])
        rw [hl s (List.mem_cons_self ..)]
    exact this bs h
theorem arranged_tree (p : Page) : arranged p = tree p (positions p) [] := by
  unfold arranged
  rw [layers_tree p _ 0 [[]] (fun s hs => by rw [List.mem_singleton.mp hs]; rfl)]
  rw [List.flatMap_cons, List.flatMap_nil, List.append_nil]
/-! ### what is left out is not feasible -/
theorem flatMap_filter' {α β : Type} (f : α → Bool) (F : α → List β) : ∀ l : List α, (l.filter f).flatMap F = l.flatMap fun a => if f a = true then F a else []
  | [] => rfl
  | a :: l => by
    rw [List.filter_cons, List.flatMap_cons, ← flatMap_filter' f F l]
    cases f a with
    | true => rw [if_pos rfl, if_pos rfl, List.flatMap_cons]
    | false => rw [if_neg Bool.false_ne_true, if_neg Bool.false_ne_true, List.nil_append]
theorem flatMap_none {α β : Type} {F : α → List β} {l : List α} (h : ∀ a ∈ l, F a = []) : l.flatMap F = [] := by
  rw [List.flatMap_eq_nil_iff]; exact h
theorem flatMap_one {β : Type} {F : Nat → List β} {n c : Nat} (hc : c < n) (h : ∀ d, d < n → d ≠ c → F d = []) : (List.range n).flatMap F = F c := by
  induction n with
  | zero => omega
  | succ n ih =>
    rw [List.range_succ, List.flatMap_append, List.flatMap_cons, List.flatMap_nil, List.append_nil]
    by_cases e : c = n
    · rw [← e, flatMap_none fun a ha => h a (by have := List.mem_range.mp ha; omega) (by have := List.mem_range.mp ha; omega), List.nil_append]
    · rw [ih (by omega) fun d hd hn => h d (by omega) hn, h n (by omega) (fun q => e q.symm), List.append_nil]
theorem flatMap_congr' {α β : Type} {F G : α → List β} {l : List α} (h : ∀ a ∈ l, F a = G a) : l.flatMap F = l.flatMap G := by
  rw [List.flatMap_def, List.flatMap_def, List.map_congr_left h]
theorem tree_full {g : Slate → Bool} {p : Page} (w : Wf p) (hg : ∀ s c m, g (s ++ c :: m) = true → c ∈ choiceAt p s.length ∧ okStep p s c = true) : ∀ (n : Nat) (s : Slate), (tree p n s).filter g = (full p n s).filter g
  | 0, s => rfl
  | n + 1, s => by
    show (((choiceAt p s.length).filter (okStep p s)).flatMap fun c => tree p n (s ++ [c])).filter g = (((Kp430.all p).filter fun c => !s.contains c).flatMap fun c => full p n (s ++ [c])).filter g
    rw [filter_flatMap, filter_flatMap, flatMap_filter', flatMap_filter']
    have bad : ∀ c, (c ∉ choiceAt p s.length ∨ okStep p s c = false) → (full p n (s ++ [c])).filter g = [] := by
      intro c hc
      rw [List.filter_eq_nil_iff]
      intro t ht hf
      obtain ⟨m, rfl, _⟩ := full_ext ht
      rw [List.append_assoc] at hf
      obtain ⟨h1, h2⟩ := hg s c m hf
      rcases hc with hc | hc
      · exact hc h1
      · rw [hc] at h2; cases h2
    have same : ∀ c, (if okStep p s c = true then (tree p n (s ++ [c])).filter g else []) = (if okStep p s c = true then (full p n (s ++ [c])).filter g else []) := fun c => by
      rw [tree_full w hg n (s ++ [c])]
    have one : ∀ c, c ∈ choiceAt p s.length → (if okStep p s c = true then (full p n (s ++ [c])).filter g else []) = (if (!s.contains c) = true then (full p n (s ++ [c])).filter g else []) := by
      intro c hc
      cases e : okStep p s c with
      | true =>
        unfold okStep at e
        rw [Bool.and_eq_true] at e
        rw [if_pos rfl, if_pos e.1]
      | false =>
        rw [if_neg Bool.false_ne_true, bad c (.inr e)]
        split <;> rfl
    unfold Kp430.all
    cases hp : pinAt p s.length with
    | none =>
      have e : choiceAt p s.length = List.range p.candidates.length := by unfold choiceAt; rw [hp]
      rw [e]
      refine flatMap_congr' fun c hc => ?_
      rw [same, one c (by rw [e]; exact hc)]
    | some c0 =>
      have e : choiceAt p s.length = [c0] := by unfold choiceAt; rw [hp]
      have h0 : c0 < p.candidates.length := by
        refine w.pc c0 ?_
        unfold pinAt at hp
        rw [List.getD_eq_getElem?_getD] at hp
        cases q : p.pins[s.length]? with
        | none => rw [q] at hp; cases hp
        | some o =>
          rw [q] at hp
          have : o = some c0 := hp
          rw [← this]
          exact List.mem_of_getElem? q
      rw [e, List.flatMap_cons, List.flatMap_nil, List.append_nil, flatMap_one h0]
      · rw [same, one c0 (by rw [e]; exact List.mem_singleton.mpr rfl)]
      · intro d hd hn
        rw [bad d (.inl (by rw [e, List.mem_singleton]; exact hn))]
        split <;> rfl
/-! ### what a feasible slate keeps -/
theorem near_none {p : Page} {s : Slate} : (nearViolation p s).isNone = true ↔ ∀ i j, i < j → j < s.length → j - i < p.spacing → crOf p (s.getD i 0) ≠ crOf p (s.getD j 0) := by
  unfold nearViolation
  rw [none_find]
  constructor
  · intro h i j h1 h2 h3 e
    have := h (i, j) (mem_pairs.mpr ⟨h1, h2⟩)
    simp only [Bool.and_eq_false_iff, decide_eq_false_iff_not, beq_eq_false_iff_ne] at this
    rcases this with q | q
    · exact q e
    · exact q h3
  · rintro h ⟨i, j⟩ hx
    obtain ⟨h1, h2⟩ := mem_pairs.mp hx
    simp only [Bool.and_eq_false_iff, decide_eq_false_iff_not, beq_eq_false_iff_ne]
    by_cases q : j - i < p.spacing
    · exact .inl (h i j h1 h2 q)
    · exact .inr q
theorem mem_close {p : Page} {s : Slate} {k : Nat} : k ∈ closeTo p s ↔ ∃ i, i < s.length ∧ s.length - i < p.spacing ∧ crOf p (s.getD i 0) = k := by
  unfold closeTo
  rw [List.mem_map]
  constructor
  · rintro ⟨c, hc, rfl⟩
    obtain ⟨j, hj, rfl⟩ := List.getElem_of_mem hc
    rw [List.length_drop] at hj
    refine ⟨s.length + 1 - p.spacing + j, by omega, by omega, ?_⟩
    rw [List.getElem_drop, List.getD_eq_getElem?_getD, List.getElem?_eq_getElem (by omega)]
    rfl
  · rintro ⟨i, h1, h2, rfl⟩
    refine ⟨s.getD i 0, ?_, rfl⟩
    rw [List.getD_eq_getElem?_getD, List.getElem?_eq_getElem h1]
    have hl : i - (s.length + 1 - p.spacing) < (s.drop (s.length + 1 - p.spacing)).length := by rw [List.length_drop]; omega
    have := List.getElem_mem hl
    rw [List.getElem_drop] at this
    have e : s.length + 1 - p.spacing + (i - (s.length + 1 - p.spacing)) = i := by omega
    simp only [e] at this
    exact this
theorem okStep_iff {p : Page} {s : Slate} {c : Nat} : okStep p s c = true ↔ c ∉ s ∧ ∀ i, i < s.length → s.length - i < p.spacing → crOf p (s.getD i 0) ≠ crOf p c := by
  unfold okStep
  rw [Bool.and_eq_true, Bool.not_eq_true', Bool.not_eq_true']
  constructor
  · rintro ⟨h1, h2⟩
    refine ⟨fun m => (by rw [List.contains_iff_mem.mpr m] at h1; cases h1), fun i hi hs e => ?_⟩
    have := mem_close.mpr ⟨i, hi, hs, e⟩
    rw [List.contains_iff_mem.mpr this] at h2; cases h2
  · rintro ⟨h1, h2⟩
    refine ⟨?_, ?_⟩
    · cases e : s.contains c with
      | false => rfl
      | true => exact absurd (List.contains_iff_mem.mp e) h1
    · cases e : (closeTo p s).contains (crOf p c) with
      | false => rfl
      | true =>
        obtain ⟨i, hi, hs, q⟩ := mem_close.mp (List.contains_iff_mem.mp e)
        exact absurd q (h2 i hi hs)
theorem getD_app_left {s m : List Nat} {i : Nat} (h : i < s.length) : (s ++ m).getD i 0 = s.getD i 0 := by
  rw [List.getD_eq_getElem?_getD, List.getD_eq_getElem?_getD, List.getElem?_append_left h]
theorem getD_app_at {s m : List Nat} {c : Nat} : (s ++ c :: m).getD s.length 0 = c := by
  rw [List.getD_eq_getElem?_getD, List.getElem?_append_right (Nat.le_refl _), Nat.sub_self]; rfl
/-- pins, spacing, different candidates that are there -/
structure Fair (p : Page) (s : Slate) : Prop where
  in_ : ∀ c ∈ s, c < p.candidates.length
  nd : s.Nodup
  pin : ∀ i c, i < s.length → pinAt p i = some c → s.getD i 0 = c
  near : ∀ i j, i < j → j < s.length → j - i < p.spacing → crOf p (s.getD i 0) ≠ crOf p (s.getD j 0)
theorem pins_iff {p : Page} {s : Slate} : pinsAll p s = true ↔ ∀ i c, i < s.length → pinAt p i = some c → s.getD i 0 = c := by
  unfold pinsAll
  rw [List.all_eq_true]
  constructor
  · intro h i c hi hc
    have := h i (List.mem_range.mpr hi)
    rw [hc] at this
    rw [List.getD_eq_getElem?_getD]
    have e : s[i]? = some c := by simpa using this
    rw [e]; rfl
  · intro h i hi
    have hi := List.mem_range.mp hi
    cases e : pinAt p i with
    | none => rfl
    | some c =>
      have := h i c hi e
      rw [List.getD_eq_getElem?_getD, List.getElem?_eq_getElem hi] at this
      show (s[i]? == some c) = true
      rw [List.getElem?_eq_getElem hi]
      have e2 : s[i] = c := this
      rw [e2]; simp
theorem isSlate_iff {p : Page} {s : Slate} : isSlate p s = true ↔ s.length = positions p ∧ (∀ c ∈ s, c < p.candidates.length) ∧ s.Nodup := by
  unfold isSlate
  rw [Bool.and_eq_true, Bool.and_eq_true, beq_iff_eq, List.all_eq_true, beq_iff_eq]
  have en : ∀ l : List Nat, l.eraseDups = l ↔ l.Nodup := by
    have hlen : ∀ (n : Nat) (l : List Nat), l.length ≤ n → l.eraseDups.length ≤ l.length := by
      intro n
      induction n with
      | zero => intro l h; rw [List.length_eq_zero_iff.mp (Nat.le_zero.mp h)]; simp
      | succ n ih =>
        intro l h
        cases l with
        | nil => simp
        | cons a l =>
          rw [List.eraseDups_cons, List.length_cons, List.length_cons]
          have h1 := List.length_filter_le (fun b => !b == a) l
          rw [List.length_cons] at h
          have := ih (l.filter fun b => !b == a) (by omega)
          omega
    intro l
    induction l with
    | nil => simp
    | cons a l ih =>
      rw [List.eraseDups_cons, List.nodup_cons]
      by_cases hm : a ∈ l
      · constructor
        · intro e
          have e2 := (List.cons.inj e).2
          have h1 := hlen _ (l.filter fun b => !b == a) (Nat.le_refl _)
          have h2 : (l.filter fun b => !b == a).length < l.length := by
            rw [List.length_filter_lt_length_iff_exists]
            exact ⟨a, hm, by simp⟩
          rw [e2] at h1
          omega
        · rintro ⟨h, _⟩; exact absurd hm h
      · have hf : (l.filter fun b => !b == a) = l := List.filter_eq_self.mpr fun x hx => by
          have : ¬ x = a := fun e => hm (e ▸ hx)
          simp [this]
        rw [hf]
        exact ⟨fun e => ⟨hm, ih.mp (List.cons.inj e).2⟩, fun h => by rw [ih.mpr h.2]⟩
  rw [en]
  constructor
  · rintro ⟨⟨h1, h2⟩, h3⟩
    exact ⟨h1, fun c hc => of_decide_eq_true (h2 c hc), h3⟩
  · rintro ⟨h1, h2, h3⟩
    exact ⟨⟨h1, fun c hc => decide_eq_true (h2 c hc)⟩, h3⟩
/-- what holds of the members in whatever order -/
def fits (p : Page) (s : Slate) : Bool := (manyViolation p s).isNone && (fewViolation p s).isNone && (creatorViolation p s).isNone && (pairViolation p s).isNone && (freshViolation p s).isNone
theorem viol_none {p : Page} {s : Slate} (hl : s.length = positions p) : (violation p s).isNone = (pinsAll p s && (nearViolation p s).isNone && fits p s) := by
  have e : (violation p s) = [pinViolation p s, manyViolation p s, fewViolation p s, creatorViolation p s, nearViolation p s, pairViolation p s, freshViolation p s].findSome? id := rfl
  have ep : (pinViolation p s).isNone = pinsAll p s := by rw [← pinV_slate hl, pinV_none]; rfl
  rw [e, ← ep]
  unfold fits
  simp only [List.findSome?_cons, List.findSome?_nil, id]
  cases pinViolation p s <;> cases manyViolation p s <;> cases fewViolation p s <;> cases creatorViolation p s <;> cases nearViolation p s <;> cases pairViolation p s <;> cases freshViolation p s <;> rfl
theorem feas_iff {p : Page} {s : Slate} : isFeasible p s = true ↔ s.length = positions p ∧ Fair p s ∧ fits p s = true := by
  unfold isFeasible
  rw [Bool.and_eq_true, isSlate_iff]
  constructor
  · rintro ⟨⟨h1, h2, h3⟩, h4⟩
    rw [viol_none h1, Bool.and_eq_true, Bool.and_eq_true, pins_iff, near_none] at h4
    exact ⟨h1, ⟨h2, h3, h4.1.1, h4.1.2⟩, h4.2⟩
  · rintro ⟨h1, ⟨h2, h3, h4, h5⟩, h6⟩
    refine ⟨⟨h1, h2, h3⟩, ?_⟩
    rw [viol_none h1, Bool.and_eq_true, Bool.and_eq_true, pins_iff, near_none]
    exact ⟨⟨h4, h5⟩, h6⟩
theorem fair_step {p : Page} {s m : Slate} {c : Nat} (h : Fair p (s ++ c :: m)) : c ∈ choiceAt p s.length ∧ okStep p s c = true := by
  have hl : s.length < (s ++ c :: m).length := by rw [List.length_append, List.length_cons]; omega
  refine ⟨?_, okStep_iff.mpr ⟨?_, fun i hi hs => ?_⟩⟩
  · unfold choiceAt
    cases e : pinAt p s.length with
    | none => exact List.mem_range.mpr (h.in_ c (by simp))
    | some d =>
      have := h.pin _ d hl e
      rw [getD_app_at] at this
      rw [this]; exact List.mem_singleton.mpr rfl
  · intro hm
    have := (List.nodup_append.mp h.nd).2.2 c hm c (by simp)
    exact this rfl
  · have := h.near i s.length hi hl hs
    rw [getD_app_left hi, getD_app_at] at this
    exact this
theorem fair_more {p : Page} {s : Slate} {c : Nat} (w : Wf p) (h : Fair p s) (hc : c ∈ choiceAt p s.length) (ho : okStep p s c = true) : Fair p (s ++ [c]) := by
  obtain ⟨h1, h2⟩ := okStep_iff.mp ho
  have hcl : c < p.candidates.length := by
    unfold choiceAt at hc
    cases e : pinAt p s.length with
    | none => rw [e] at hc; exact List.mem_range.mp hc
    | some d =>
      rw [e] at hc
      have e2 : c = d := List.mem_singleton.mp hc
      refine w.pc c ?_
      unfold pinAt at e
      rw [List.getD_eq_getElem?_getD] at e
      cases q : p.pins[s.length]? with
      | none => rw [q] at e; cases e
      | some o =>
        rw [q] at e
        have : o = some d := e
        rw [e2, ← this]
        exact List.mem_of_getElem? q
  refine ⟨fun d hd => ?_, ?_, fun i d hi hp => ?_, fun i j hij hj hs => ?_⟩
  · rcases List.mem_append.mp hd with hd | hd
    · exact h.in_ d hd
    · rw [List.mem_singleton.mp hd]; exact hcl
  · rw [List.nodup_append]
    exact ⟨h.nd, by simp, fun a ha b hb e => h1 (by rw [List.mem_singleton] at hb; rw [← hb, ← e]; exact ha)⟩
  · rw [List.length_append] at hi
    by_cases q : i < s.length
    · rw [getD_app_left q]; exact h.pin i d q hp
    · have e : i = s.length := by simp at hi; omega
      subst e
      rw [getD_app_at]
      unfold choiceAt at hc
      rw [hp] at hc
      exact List.mem_singleton.mp hc
  · rw [List.length_append] at hj
    by_cases q : j < s.length
    · rw [getD_app_left q, getD_app_left (by omega)]; exact h.near i j hij q hs
    · have e : j = s.length := by simp at hj; omega
      subst e
      rw [getD_app_left hij, getD_app_at]
      exact h2 i hij hs
theorem tree_fair {p : Page} (w : Wf p) : ∀ {n : Nat} {s t : Slate}, Fair p s → t ∈ tree p n s → Fair p t ∧ t.length = s.length + n
  | 0, s, t, h, ht => by rw [List.mem_singleton.mp ht]; exact ⟨h, rfl⟩
  | n + 1, s, t, h, ht => by
    obtain ⟨c, hc, ht⟩ := List.mem_flatMap.mp ht
    obtain ⟨h1, h2⟩ := List.mem_filter.mp hc
    obtain ⟨q1, q2⟩ := tree_fair w (fair_more w h h1 h2) ht
    refine ⟨q1, ?_⟩
    rw [q2, List.length_append]
    show s.length + 1 + n = _
    omega
theorem fair_nil (p : Page) : Fair p [] := ⟨(fun _ h => nomatch h), List.nodup_nil, fun i c h => absurd h (Nat.not_lt_zero _), fun i j _ h => absurd h (Nat.not_lt_zero _)⟩
theorem arranged_fair {p : Page} (w : Wf p) {s : Slate} (h : s ∈ arranged p) : Fair p s ∧ s.length = positions p := by
  rw [arranged_tree] at h
  have := tree_fair w (fair_nil p) h
  rw [List.length_nil, Nat.zero_add] at this
  exact this
theorem arranged_fits {p : Page} (w : Wf p) : (arranged p).filter (fits p) = feasible p := by
  rw [feasible_full, ← tree_full w (fun s c m h => fair_step ((feas_iff.mp h).2.1)), ← arranged_tree]
  refine List.filter_congr fun s hs => ?_
  obtain ⟨h1, h2⟩ := arranged_fair w hs
  cases e : fits p s with
  | true => exact (feas_iff.mpr ⟨h2, h1, e⟩).symm
  | false =>
    cases q : isFeasible p s with
    | false => rfl
    | true => rw [(feas_iff.mp q).2.2] at e; cases e
theorem feasible_mem {p : Page} {s : Slate} (h : s ∈ feasible p) : isFeasible p s = true := by
  rw [feasible_full] at h
  exact (List.mem_filter.mp h).2
theorem feasible_len {p : Page} (w : Wf p) : (feasible p).length ≤ 59049 := by
  rw [feasible_full]
  refine Nat.le_trans (List.length_filter_le _ _) (Nat.le_trans (full_len p w.cn _ _) ?_)
  refine Nat.le_trans (Nat.pow_le_pow_right (by decide) w.w5) (by decide)
end Ps
end

section
set_option maxRecDepth 100000
set_option maxHeartbeats 2000000
namespace Ps
open PySem PySem.Spec PyProof.Rows L2 Evl
open Kp430 (Page Candidate Quota)
/-! More evaluations and loops. -/
theorem ints_nats (r : List Nat) : (r.map fun n : Nat => (n : Int)).map V.int = r.map nV := by rw [List.map_map]; rfl
/-- to a list that is tracked, an old or a new one -/
def EvK (te : TE) (σ : L2.St) (H : Hp) (xs : List V) : Prop := ∀ H1, Ex H H1 → ∀ Q : VK, (∀ p H2, Ex H1 H2 → H2 p = some (.lst xs) → Q (.ref p) H2) → te σ H1 Q
section
variable {K : PySem.W.Frag} {σ : L2.St} {H H' : Hp} {D : Ends} {ta tb tc te tx tl tr to ti td ty tv : TE} {t u : TT} {tu tz0 : TS} {g : TG} {x y z v : V} {xs ys : List V}
theorem ek_of {p : Addr} (h : Ev te σ H (.ref p)) (hs : H p = some (.lst xs)) : EvK te σ H xs := fun H1 e Q q => h H1 e Q fun H2 e2 => q p H2 e2 ((e.trans e2) _ _ hs)
theorem ek_new (h : EvL te σ H xs) : EvK te σ H xs := fun H1 e Q q => h H1 e Q fun p H2 _ e2 hp => q p H2 e2 hp
theorem EvK.s (h : EvK te σ H xs) : EvS K te σ H xs := fun H1 e Q q => h H1 e Q fun p H2 e2 hp => q p H2 e2 (sq_of hp)
theorem EvK.is (h : EvK te σ H xs) (e : xs = ys) : EvK te σ H ys := e ▸ h
theorem EvK.mono (e : Ex H H') (h : EvK te σ H xs) : EvK te σ H' xs := fun H1 a Q q => h H1 (e.trans a) Q q
theorem el_cc (ha : EvK ta σ H xs) (hb : EvK tb σ H ys) (hz : xs.length + ys.length ≤ 100000) : EvL (tOp rCat ta tb) σ H (xs ++ ys) := fun H1 e Q k =>
  ha H1 e _ fun p H2 e2 h2 => hb H2 (e.trans e2) _ fun q H3 e3 h3 => ⟨p, q, xs, ys, rfl, rfl, e3 _ _ h2, h3, sz_of hz, fun d hd => k d _ (fresh_back (e2.trans e3) hd) ((e2.trans e3).trans (Ex.new hd)) upd_same⟩
/-- a promise that hands back a list, an old or a new one -/
def RetK (xs : List V) (H : Hp) (Q : VK) : Prop := ∀ p H2, Ex H H2 → H2 p = some (.lst xs) → Q (.ref p) H2
def spK (R : List V → Hp → List V → Prop) : Sp := fun vs H Q _ => ∃ xs, R vs H xs ∧ RetK xs H Q
theorem ek_cd {R : List V → Hp → List V → Prop} {E : XK} {tz : TA} {vs : List V} (h : EvA tz σ H vs) (r : ∀ H1, Ex H H1 → R vs H1 xs) : EvK (tCall (spK R) [] E tz) σ H xs := fun H1 e Q q => h H1 e _ fun H2 e2 => by
  rw [List.append_nil]
  exact ⟨xs, r H2 (e.trans e2), fun p H3 e3 h3 => q p H3 (e2.trans e3) h3⟩
theorem s_asgK {i : Nat} (h : EvK te σ H xs) (k : ∀ p H1, Ex H H1 → H1 p = some (.lst xs) → D.nx (σ.set i (some (.ref p))) H1) : tAsg te (gName i) D σ H := h H (Ex.refl H) _ k
theorem q_asgK {i : Nat} {tz : TS} (h : EvK te σ H xs) (k : ∀ p H1, Ex H H1 → H1 p = some (.lst xs) → tz D (σ.set i (some (.ref p))) H1) : tSeq (tAsg te (gName i)) tz D σ H := s_asgK (D := { D with nx := tz D }) h k
theorem s_retK (h : EvK te σ H xs) (k : ∀ p H1, Ex H H1 → H1 p = some (.lst xs) → D.rt (.ref p) H1) : tRet te D σ H := h H (Ex.refl H) _ k
theorem maxK {X : Cx} (hc : X.calm = true := by rfl) (hK : X.K = K := by rfl) : CallR X (.builtin "max") (rMax K) := by
  subst hK; exact cr_max hc
/-- f(x, a list) -/
theorem ev_cdK {R : List V → Hp → V → Prop} {E : XK} (h : Ev ta σ H x) (hl : EvK tb σ H xs) (r : ∀ p H1, Ex H H1 → H1 p = some (.lst xs) → R [x, .ref p] H1 z) : Ev (tCall (spV R) [] E (tCons ta (tCons tb tNil))) σ H z := fun H1 e Q q =>
  h H1 e _ fun H2 e2 => hl H2 (e.trans e2) _ fun p H3 e3 h3 => ⟨z, r p H3 ((e.trans e2).trans e3) h3, fun H4 e4 => q H4 ((e2.trans e3).trans e4)⟩
theorem el_cdK {R : List V → Hp → List V → Prop} {E : XK} (h : Ev ta σ H x) (hl : EvK tb σ H xs) (r : ∀ p H1, Ex H H1 → H1 p = some (.lst xs) → R [x, .ref p] H1 ys) : EvL (tCall (spL R) [] E (tCons ta (tCons tb tNil))) σ H ys := fun H1 e Q q =>
  h H1 e _ fun H2 e2 => hl H2 (e.trans e2) _ fun p H3 e3 h3 => ⟨ys, r p H3 ((e.trans e2).trans e3) h3, fun d H4 hd e4 h4 => q d H4 (fresh_back (e2.trans e3) hd) ((e2.trans e3).trans e4) h4⟩
theorem notTK {X : Cx} {e : Expr} {pos : Pos} (ha : PE X e te) (hK : X.K = K := by rfl) : PE X (.UnaryOp .Not e pos) (tNotT K te) := by
  subst hK; exact pe_notT ha
/-- not of a list, as a value -/
theorem ev_notL (h : EvS K te σ H xs) : Ev (tNotT K te) σ H (.bl xs.isEmpty) := fun H1 e Q q => h H1 e _ fun p H2 e2 hs => ⟨!xs.isEmpty, .inl ⟨xs, hs, rfl⟩, by
  rw [Bool.not_not]
  exact q H2 e2⟩
theorem g_three {T : Addr} {x y z : V} {i j k : Nat} {Q : L2.St → Hp → Prop} (h : H T = some (.tup [x, y, z])) (q : Q (((σ.set i (some x)).set j (some y)).set k (some z)) H) : gTup K 3 (gCons (gName i) (gCons (gName j) (gCons (gName k) gNil))) (.ref T) σ H Q :=
  ⟨T, _, rfl, st_of h, rfl, _, _, rfl, _, _, rfl, _, _, rfl, rfl, q⟩
/-! ### dicts -/
theorem et_dnotin {d : Addr} {kvs : List (Key × V)} {k : Key} (hk : Ev ty σ H (kV k)) (ho : Ev td σ H (.ref d)) (hd : H d = some (.dK kvs)) : EvT (tB (tDNotIn ty td)) σ H (!(valV kvs k).isSome) := fun H1 e Q q =>
  hk H1 e _ fun H2 e2 => ho H2 (e.trans e2) _ fun H3 e3 => ⟨d, valV kvs k, rfl, DGet.k (((e.trans e2).trans e3) _ _ hd), _, rfl, q H3 (e2.trans e3)⟩
theorem ev_dget {d : Addr} {kvs : List (Key × V)} {k : Key} (ho : Ev td σ H (.ref d)) (hk : Ev ty σ H (kV k)) (hd : H d = some (.dK kvs)) (hv : valV kvs k = some v) : Ev (tDGet td ty) σ H v := fun H1 e Q q =>
  ho H1 e _ fun H2 e2 => hk H2 (e.trans e2) _ fun H3 e3 => ⟨d, v, rfl, by rw [← hv]; exact DGet.k (((e.trans e2).trans e3) _ _ hd), q H3 (e2.trans e3)⟩
/-! ### built-ins -/
theorem max_unique {ns : List Int} {m n : Int} (h1 : m ∈ ns) (h2 : ∀ y ∈ ns, y ≤ m) (h3 : n ∈ ns) (h4 : ∀ y ∈ ns, y ≤ n) : m = n := Int.le_antisymm (h4 m h1) (h2 n h3)
theorem foldl_max_is : ∀ (r : List Int) (n : Int), r.foldl max n ∈ n :: r ∧ ∀ y ∈ n :: r, y ≤ r.foldl max n
  | [], n => ⟨by simp, fun y hy => by rw [List.mem_singleton.mp hy]; exact Int.le_refl _⟩
  | a :: r, n => by
    obtain ⟨h1, h2⟩ := foldl_max_is r (max n a)
    rw [List.foldl_cons]
    refine ⟨?_, fun y hy => ?_⟩
    · rcases List.mem_cons.mp h1 with h | h
      · rw [h]
        by_cases q : n ≤ a
        · rw [Int.max_eq_right q]; simp
        · rw [Int.max_eq_left (by omega)]; simp
      · exact List.mem_cons_of_mem _ (List.mem_cons_of_mem _ h)
    · have h3 := h2 (max n a) (List.mem_cons_self ..)
      rcases List.mem_cons.mp hy with rfl | hy
      · omega
      · rcases List.mem_cons.mp hy with rfl | hy
        · omega
        · exact h2 y (List.mem_cons_of_mem _ hy)
theorem ev_maxS {ns : List Int} (h : EvS K te σ H (ns.map V.int)) (hn : ns ≠ []) : Ev (tCB (rMax K) (tCons te tNil)) σ H (.int (Kp430.maximum ns)) := fun H1 e Q q => h H1 e _ fun p H2 e2 hs => ⟨p, ns, rfl, hs, by
  cases ns with
  | nil => exact absurd rfl hn
  | cons a l => exact Nat.succ_pos _, fun m h1 h2 => by
  cases ns with
  | nil => cases h1
  | cons a l =>
    obtain ⟨q1, q2⟩ := foldl_max_is l a
    have : m = Kp430.maximum (a :: l) := max_unique h1 h2 q1 q2
    rw [this]
    exact q H2 e2⟩
theorem ev_maxD {ns : List Int} {d : Int} (h : EvS K te σ H (ns.map V.int)) (hd : Ev tx σ H (.int d)) : Ev (tCKw (rMaxD K) (tCons te tNil) (tCons tx tNil)) σ H (.int (maxOr d ns)) := fun H1 e Q q =>
  h H1 e _ fun p H2 e2 hs => hd H2 (e.trans e2) _ fun H3 e3 => ⟨p, ns, d, rfl, rfl, ex_l e3 hs, q H3 (e2.trans e3)⟩
/-- in order downwards -/
def downs' (l : List Nat) : List Nat := l.foldl (fun (l : List Nat) (x : Nat) => Kp430.insertDown x l) []
theorem ints_of_perm : ∀ {l : List Nat} {ns : List Int}, ns.Perm (l.map fun n : Nat => (n : Int)) → ∃ m : List Nat, ns = m.map (fun n : Nat => (n : Int)) ∧ m.Perm l := by
  intro l ns h
  refine ⟨ns.map Int.toNat, ?_, ?_⟩
  · rw [List.map_map]
    refine (List.map_id ns).symm.trans (List.map_congr_left fun x hx => ?_)
    obtain ⟨n, _, rfl⟩ := List.mem_map.mp (h.mem_iff.mp hx)
    rfl
  · have := h.map Int.toNat
    rw [List.map_map] at this
    have e : l.map (Int.toNat ∘ fun n : Nat => (n : Int)) = l := (List.map_congr_left fun x _ => rfl).trans (List.map_id l)
    rwa [e] at this
theorem el_sortRev {l : List Nat} (h : EvS K te σ H (l.map nV)) (hb : Ev tx σ H (.bl true)) : EvL (tCKw (rSortedKw K true [.bl true]) (tCons te tNil) (tCons tx tNil)) σ H ((downs' l).map nV) := fun H1 e Q q =>
  h H1 e _ fun p H2 e2 hs => hb H2 (e.trans e2) _ fun H3 e3 => ⟨p, l.map fun n : Nat => (n : Int), rfl, rfl, by rw [List.map_map]; exact ex_l e3 hs, fun ns' d hp ho hd => by
    obtain ⟨m, rfl, hm⟩ := ints_of_perm hp
    have hs2 : m.Pairwise (fun a b => b ≤ a) := by
      have ho : (m.map fun n : Nat => (n : Int)).Pairwise (· ≥ ·) := ho
      rw [List.pairwise_map] at ho
      exact ho.imp fun q => by omega
    obtain ⟨d1, d2⟩ := downs l [] List.Pairwise.nil
    have em : m = downs' l := down_eq hs2 d1 (hm.trans d2.symm)
    rw [em] at *
    refine q d _ (fresh_back (e2.trans e3) hd) ((e2.trans e3).trans (Ex.new hd)) ?_
    rw [List.map_map]
    exact upd_same⟩
theorem el_range {n : Nat} (h : Ev te σ H (nV n)) (hn : n ≤ 100000) : EvL (tLstRg (tRg1 te)) σ H ((List.range n).map nV) := fun H1 e Q q => h H1 e _ fun H2 e2 => ⟨(n : Int), rfl, RgOk.of_le (by omega) (by omega) (by omega) (by omega), fun d hd => by
  have er : rgV 0 (n : Int) = (List.range n).map nV := by
    unfold rgV
    rw [show ((n : Int) - 0).toNat = n by omega]
    refine List.map_congr_left fun i _ => ?_
    show V.int (0 + (i : Int)) = nV i
    rw [Int.zero_add]
  rw [er]
  exact q d _ (fresh_back e2 hd) (e2.trans (Ex.new hd)) upd_same⟩
/-! ### loops -/
/-- over two lists at once -/
theorem s_forZ {tz : TA} {α β : Type} {l : List α} {m : List β} {r : α → V} {s : β → V} (h : EvZ K tz σ H (l.map r) (m.map s)) (k : ∀ H1, Ex H H1 → ∃ Pv : Nat → L2.St → Hp → Prop, Pv 0 σ H1 ∧ (∀ i σ' H', Pv i σ' H' → Ex H1 H') ∧
    (∀ i x y T σ' H', l[i]? = some x → m[i]? = some y → Pv i σ' H' → H' T = none → g (.ref T) σ' (upd H' T (.tup [r x, s y])) fun σ2 H2 => tu { D with nx := Pv (i + 1), ct := Pv (i + 1), bk := D.nx } σ2 H2) ∧ (∀ σ' H', Pv (min l.length m.length) σ' H' → D.nx σ' H')) :
    tFor (iZip K tz) g tu D σ H := h H (Ex.refl H) _ fun a b H1 e1 sa sb => ⟨a, b, _, _, rfl, sa, sb, by
  obtain ⟨Pv, p0, pe, ps, pd⟩ := k H1 e1
  refine for_it (n := min l.length m.length) (walk_zip (by rw [List.length_map, List.length_map])) Pv p0 (fun i σ' H' _ q => ⟨ex_l (pe i σ' H' q) sa, ex_l (pe i σ' H' q) sb⟩) (fun i x σ' H' H'' hi q y => ?_) pd
  obtain ⟨T, x1, y1, rfl, hT, rfl, hx, hy⟩ := y
  obtain ⟨xa, ha, rfl⟩ := getE_map hx
  obtain ⟨yb, hb, rfl⟩ := getE_map hy
  exact ps i xa yb T σ' H' ha hb q hT⟩
theorem q_forZ {tz : TA} {tq : TS} {α β : Type} {l : List α} {m : List β} {r : α → V} {s : β → V} (h : EvZ K tz σ H (l.map r) (m.map s)) (k : ∀ H1, Ex H H1 → ∃ Pv : Nat → L2.St → Hp → Prop, Pv 0 σ H1 ∧ (∀ i σ' H', Pv i σ' H' → Ex H1 H') ∧
    (∀ i x y T σ' H', l[i]? = some x → m[i]? = some y → Pv i σ' H' → H' T = none → g (.ref T) σ' (upd H' T (.tup [r x, s y])) fun σ2 H2 => tu { D with nx := Pv (i + 1), ct := Pv (i + 1), bk := tq D } σ2 H2) ∧ (∀ σ' H', Pv (min l.length m.length) σ' H' → tq D σ' H')) :
    tSeq (tFor (iZip K tz) g tu) tq D σ H := s_forZ (D := { D with nx := tq D }) h k
/-- over two known lists at once -/
theorem s_forZ2 {b1 b2 : Addr} {α β : Type} {l : List α} {m : List β} {r : α → V} {s : β → V} (h1 : Ev ta σ H (.ref b1)) (h2 : Ev tb σ H (.ref b2)) (q1 : SqL K H b1 (l.map r)) (q2 : SqL K H b2 (m.map s)) (Pv : Nat → L2.St → Hp → Prop) (h0 : ∀ H1, Ex H H1 → Pv 0 σ H1) (hl : ∀ i σ' H', Pv i σ' H' → SqL K H' b1 (l.map r) ∧ SqL K H' b2 (m.map s))
    (hs : ∀ i x y T σ' H', l[i]? = some x → m[i]? = some y → Pv i σ' H' → H' T = none → g (.ref T) σ' (upd H' T (.tup [r x, s y])) fun σ2 H2 => tu { D with nx := Pv (i + 1), ct := Pv (i + 1), bk := D.nx } σ2 H2) (hd : ∀ σ' H', Pv (min l.length m.length) σ' H' → D.nx σ' H') :
    tFor (iZip K (tCons ta (tCons tb tNil))) g tu D σ H := h1 H (Ex.refl H) _ fun H1 e1 => h2 H1 e1 _ fun H2 e2 => ⟨b1, b2, _, _, rfl, ex_l (e1.trans e2) q1, ex_l (e1.trans e2) q2,
  for_it (n := min l.length m.length) (walk_zip (by rw [List.length_map, List.length_map])) Pv (h0 H2 (e1.trans e2)) (fun i σ' H' _ q => hl i σ' H' q) (fun i x σ' H' H'' hi q y => by
    obtain ⟨T, x1, y1, rfl, hT, rfl, hx, hy⟩ := y
    obtain ⟨xa, ha, rfl⟩ := getE_map hx
    obtain ⟨yb, hb, rfl⟩ := getE_map hy
    exact hs i xa yb T σ' H' ha hb q hT) hd⟩
/-- over a tuple that is written on the spot -/
theorem s_forU {xs : List V} (h : EvU tl σ H xs) (k : ∀ t H1, H t = none → Ex H H1 → H1 t = some (.tup xs) → ∃ Pv : Nat → L2.St → Hp → Prop, Pv 0 σ H1 ∧ (∀ i σ' H', Pv i σ' H' → Ex H1 H') ∧
    (∀ i x σ' H', xs[i]? = some x → Pv i σ' H' → g x σ' H' fun σ2 H2 => tu { D with nx := Pv (i + 1), ct := Pv (i + 1), bk := D.nx } σ2 H2) ∧ (∀ σ' H', Pv xs.length σ' H' → D.nx σ' H')) : tFor (iTup K tl) g tu D σ H :=
  h H (Ex.refl H) _ fun t H1 ht e1 h1 => ⟨t, rfl, ⟨_, st_of h1⟩, by
  obtain ⟨Pv, p0, pe, ps, pd⟩ := k t H1 ht e1 h1
  refine for_it (n := xs.length) walk_tup Pv p0 (fun i σ' H' _ q => ex_t (pe i σ' H' q) (st_of h1)) (fun i x σ' H' H'' hi q y => ?_) pd
  obtain ⟨rfl, hx⟩ := y
  exact ps i x σ' H'' hx q⟩
/-- over a list, by places of another -/
theorem s_forA {α : Type} {l : List α} {r : α → V} (h : EvS K tl σ H (l.map r)) (k : ∀ H1, Ex H H1 → ∃ Pv : Nat → L2.St → Hp → Prop, Pv 0 σ H1 ∧ (∀ a, SqL K H1 a (l.map r) → ∀ i σ' H', Pv i σ' H' → SqL K H' a (l.map r)) ∧
    (∀ i x σ' H', l[i]? = some x → Pv i σ' H' → g (r x) σ' H' fun σ2 H2 => tu { D with nx := Pv (i + 1), ct := Pv (i + 1), bk := D.nx } σ2 H2) ∧ (∀ σ' H', Pv l.length σ' H' → D.nx σ' H')) : tFor (iList K tl) g tu D σ H :=
  h H (Ex.refl H) _ fun p H1 e1 hp => ⟨p, rfl, ⟨_, hp⟩, by
  obtain ⟨Pv, p0, pe, ps, pd⟩ := k H1 e1
  refine for_list (xs := l.map r) Pv p0 (fun i σ' H' _ q => pe p hp i σ' H' q) (fun i x σ' H' hi q => ?_) (fun σ' H' q => pd σ' H' (by rwa [List.length_map] at q))
  obtain ⟨a, ha, rfl⟩ := getE_map hi
  exact ps i a σ' H' ha q⟩
theorem q_forA {tq : TS} {α : Type} {l : List α} {r : α → V} (h : EvS K tl σ H (l.map r)) (k : ∀ H1, Ex H H1 → ∃ Pv : Nat → L2.St → Hp → Prop, Pv 0 σ H1 ∧ (∀ a, SqL K H1 a (l.map r) → ∀ i σ' H', Pv i σ' H' → SqL K H' a (l.map r)) ∧
    (∀ i x σ' H', l[i]? = some x → Pv i σ' H' → g (r x) σ' H' fun σ2 H2 => tu { D with nx := Pv (i + 1), ct := Pv (i + 1), bk := tq D } σ2 H2) ∧ (∀ σ' H', Pv l.length σ' H' → tq D σ' H')) : tSeq (tFor (iList K tl) g tu) tq D σ H := s_forA (D := { D with nx := tq D }) h k
/-! ### comprehensions -/
/-- over a range, with a test -/
theorem el_lcRf {j : Nat} {vs : List Nat} {n : Nat} {d : Nat → Bool} {gg : Nat → V} {trr : TE} (h : Ev trr σ H (nV n)) (hn : n ≤ 40000) (hw : ∀ x, wipe ((wipe σ vs).set j (some x)) vs = wipe σ vs)
    (ht : ∀ (i : Nat) H1, Ex H H1 → i < n → EvT t ((wipe σ vs).set j (some (nV i))) H1 (d i)) (he : ∀ (i : Nat) H1, Ex H H1 → i < n → d i = true → Ev te ((wipe σ vs).set j (some (nV i))) H1 (gg i)) :
    EvL (tLc (iRng1 (tCons trr tNil)) (gName j) t te vs) σ H (((List.range n).filter d).map gg) := fun H0 e Q q => h H0 e _ fun H1 e1 =>
  ⟨(n : Int), rfl, by omega, by omega, fun D hD => by
    refine lc_gen (n := n) walk_r1 d gg (fun i => (wipe σ vs).set j (some (nV i))) hD hn (fun _ _ => trivial) ?_ (fun i _ => hw _) (fun i hi => ht i H1 (e.trans e1) hi) (fun i hi hc => he i H1 (e.trans e1) hi hc) fun H' e' h' => q D H' (fresh_back e1 hD) (e1.trans e') h'
    rintro i x H2 H3 hi e2 ⟨rfl, rfl⟩
    refine ⟨Ex.refl _, fun Q k => ?_⟩
    have e0 : (0 : Int) + (i : Int) = (i : Int) := Int.zero_add _
    show Q ((wipe σ vs).set j (some (.int ((0 : Int) + (i : Int))))) H3
    rw [e0]
    exact k _ (Ex.refl _)⟩
end
end Ps
end

section
set_option maxRecDepth 100000
set_option maxHeartbeats 2000000
namespace Ps
open PySem PySem.Spec PyProof.Rows L2 Evl
open Kp430 (Page Candidate Quota)
section
variable {P : Program} {w : World} {K : PySem.W.Frag} {mg : Str → Option Value} {base : Heap} {CC CP CS : Addr} {σ : L2.St} {H Hs : Hp} {D : Ends} {a : Addr} {L : Lay} {p : Page} {tp tv te to ti : TE} {Q : VK}
/-! ### questions -/
inductive AskIs : Nat → List Nat → List Int → Kp430.Call → Prop
  | c11 (r : List Nat) : AskIs 11 [] (r.map fun n : Nat => (n : Int)) (.value r)
  | c12 (r : List Nat) : AskIs 12 [] (r.map fun n : Nat => (n : Int)) (.violation r)
  | c13 (x : Nat) (r : List Nat) : AskIs 13 [x] (r.map fun n : Nat => (n : Int)) (.gain x r)
  | c14 (r : List Int) : AskIs 14 [] r .greedy
  | c15 (r : List Nat) : AskIs 15 [] (r.map fun n : Nat => (n : Int)) (.improve r)
  | c16 (x : Nat) (r : List Int) : AskIs 16 [x] r (.best x)
  | c17 (r : List Int) : AskIs 17 [] r .countFeasible
  | c18 (r : List Int) : AskIs 18 [] r (.bound r)
  | c19 (x y : Nat) (r : List Int) : AskIs 19 [x, y] r (.tune x y r)
  | c20 (r : List Int) : AskIs 20 [] r (.gap r)
  | c21 (r : List Nat) : AskIs 21 [] (r.map fun n : Nat => (n : Int)) (.exposure r)
  | c22 (x : Nat) (r : List Int) : AskIs 22 [x] r (.cover x)
  | c23 (x : Nat) (r : List Int) : AskIs 23 [x] r (.costOf x)
  | c24 (x : Nat) (r : List Int) : AskIs 24 [x] r (.worth x)
  | c25 (x : Nat) (r : List Int) : AskIs 25 [x] r (.candidateInfo x)
  | c26 (r : List Int) : AskIs 26 [] r .status
def rAsk (K : PySem.W.Frag) (CC CP : Addr) : List V → Hp → List V → Prop := fun vs H xs => ∃ a p n ns row ln lr c, vs = [.ref a, nV n, .ref ln, .ref lr] ∧ PageAt CC CP H a p ∧ Wf p ∧ H ln = some (.lst (ns.map nV)) ∧ H lr = some (.lst (row.map V.int)) ∧ row.length ≤ 12 ∧ AskIs n ns row c ∧ xs = aL (Kp430.step (some p) c).2
theorem ret_cd {R : List V → Hp → List V → Prop} {E : XK} {tz : TA} {vs xs : List V} {H0 : Hp} (h : EvA tz σ H vs) (r : ∀ H1, Ex H H1 → R vs H1 xs) (e : Ex H0 H) (k : RetL xs H0 D.rt) : tRet (tCall (spL R) [] E tz) D σ H :=
  s_retL (el_cd h r) fun q H1 hq e1 h1 => k q H1 (fresh_back e hq) (e.trans e1) h1
/-! ### the object that one list of calls works on -/
def sF (v : V) : List (Str × V) := [("page", v)]
theorem sF_page {v : V} : (sF v).lookup ("page" : Str) = some v := lk_here
theorem sF_put {v u : V} : putF ("page" : Str) u (sF v) = sF u := pt_here
theorem sF_new {v : V} : putF ("page" : Str) v [] = sF v := rfl
theorem sF_no_create {v : V} : (sF v).lookup ("create" : Str) = none := (lk_past (by decide +kernel)).trans rfl
theorem sF_no_answer {v : V} : (sF v).lookup ("answer" : Str) = none := (lk_past (by decide +kernel)).trans rfl
def StIn (CC CP CS : Addr) (Hs H : Hp) (S : Addr) (st : Kp430.State) : Prop := ∃ dx v, H S = some (.ins CS dx (sF v)) ∧ Hs S = none ∧ Ex Hs H ∧ (match st with
  | none => v = .non
  | some p => ∃ a, v = .ref a ∧ PageIn CC CP Hs H a p ∧ Wf p)
theorem StIn.mono {H' : Hp} {S : Addr} {st : Kp430.State} (h : StIn CC CP CS Hs H S st) (e : Ex H H') : StIn CC CP CS Hs H' S st := by
  obtain ⟨dx, v, h1, h2, h3, h4⟩ := h
  refine ⟨dx, v, e _ _ h1, h2, h3.trans e, ?_⟩
  cases st with
  | none => exact h4
  | some p =>
    obtain ⟨a, q1, q2, q3⟩ := h4
    exact ⟨a, q1, q2.mono e, q3⟩
theorem sF_ne_p {dx dy C C' : Addr} {v : V} {w x q f n : Addr} {lm sp fa fl dv : Nat} : HO.ins C dy (pF0 w x q lm sp fa fl dv f n) ≠ HO.ins C' dx (sF v) := fun z => by
  injection z with _ _ z3
  exact absurd (congrArg List.length z3) (by show ¬ (10 : Nat) = 1; decide)
theorem sF_ne_c {dx dy C C' : Addr} {v : V} {s g k c : Nat} {t : Addr} : HO.ins C dy (cF0 s g k c t) ≠ HO.ins C' dx (sF v) := fun z => by
  injection z with _ _ z3
  exact absurd (congrArg List.length z3) (by show ¬ (5 : Nat) = 1; decide)
/-- the session's own object among what stands -/
theorem page_with {S dx : Addr} {v : V} (hn : Hs S = none) (hS : H S = some (.ins CS dx (sF v))) (h : PageIn CC CP Hs H a p) : PageIn CC CP (upd Hs S (.ins CS dx (sF v))) H a p := by
  obtain ⟨L, hp, A⟩ := h
  have nl : ∀ {b : Addr} {xs : List V}, H b = some (.lst xs) → b ≠ S := fun e => ne_of e hS (by intro z; cases z)
  refine ⟨L, hp, fun b o hb => ?_, ?_, fun i c k h1 h2 => ?_, ?_, fun b hb => ?_, fun c hc => ?_, A.nd, A.cd⟩
  · by_cases e : b = S
    · rw [e, upd_same] at hb
      cases hb
      rw [e]; exact hS
    · rw [upd_ne e] at hb
      exact A.ex _ _ hb
  · exact src_upd hn A.hw
  · exact src_upd hn (A.ht i c k h1 h2)
  · rw [upd_ne (ne_of hp.ins hS sF_ne_p)]; exact A.na
  · have : ∃ xs, H b = some (.lst xs) := by
      simp only [List.mem_cons, List.not_mem_nil, or_false] at hb
      rcases hb with rfl | rfl | rfl | rfl
      · exact ⟨_, hp.hc⟩
      · exact ⟨_, hp.hq⟩
      · exact ⟨_, hp.hf⟩
      · exact ⟨_, hp.hp⟩
    obtain ⟨xs, hx⟩ := this
    rw [upd_ne (nl hx)]; exact A.nl b hb
  · obtain ⟨i, hi, rfl⟩ := List.getElem_of_mem hc
    have hi2 : i < p.candidates.length := by rw [← hp.hcl]; exact hi
    have := (hp.hca i _ _ (List.getElem?_eq_getElem hi) (List.getElem?_eq_getElem hi2)).ins
    rw [upd_ne (ne_of this hS sF_ne_c)]; exact A.nc _ hc
theorem page_without {S : Addr} {o : HO} {H' : Hp} (hn : Hs S = none) (hS : H' S = some o) (ho : ∀ xs, o ≠ .lst xs) (nt : ∀ xs, o ≠ .tup xs) (h : PageIn CC CP (upd Hs S o) H' a p) : PageIn CC CP Hs H' a p := by
  obtain ⟨L, hp, A⟩ := h
  have nl : ∀ {b : Addr} {xs : List V}, H' b = some (.lst xs) → b ≠ S := fun e => ne_of e hS fun z => ho _ z.symm
  have nn : ∀ {b : Addr}, upd Hs S o b = none → Hs b = none := fun {b} q => by
    by_cases e : b = S
    · rw [e]; exact hn
    · rw [upd_ne e] at q; exact q
  refine ⟨L, hp, (Ex.new hn).trans A.ex, ?_, fun i c k h1 h2 => ?_, nn A.na, fun b hb => nn (A.nl b hb), fun c hc => nn (A.nc c hc), A.nd, A.cd⟩
  · exact src_back (fun x y z => nt _ z) (nl hp.hw) A.hw
  · exact src_back (fun x y z => nt _ z) (nl (hp.hca i c k h1 h2).tps) (A.ht i c k h1 h2)
def spSInit (CS : Addr) : Sp := fun vs H Q _ => ∃ x dx, vs = [.ref x] ∧ H x = some (.ins CS dx []) ∧ ∀ H', H' x = some (.ins CS dx (sF .non)) → But x H H' → Q .non H'
abbrev s_Session___init__ : Stmt := inClass (topS 117) 0
theorem sc_Session___init__ : FnScope ["self"] ["self"] (defScope s_Session___init__) := ⟨rfl, rfl, rfl, by decide +kernel, rfl, by decide +kernel, by decide +kernel⟩
theorem ok_Session_init (T : Txt K mg CC CP CS) (F : IFunAt K CS "Session.__init__" s_Session___init__ ["self"]) : MakeAt P w K mg base 1 CS ["self"] (spSInit CS) := by
  obtain ⟨f, fd, FF, hm, hb⟩ := F.ex
  refine ⟨f, fd, FF.ok sc_Session___init__ (fun vs H Q E h => ?_) (fun cdv A outer s H vs Q E hr h => ⟨_, (pss_one (sfldK (K := K) (pv 0) pe_non)), ?_⟩), hm, hb⟩
  · obtain ⟨_, _, rfl, _⟩ := h
    rfl
  · obtain ⟨x, dx, rfl, hx, q⟩ := h
    refine s_fld ev_c (ev_var rfl) hx T.cSession T.nS_page (sml sm0) fun H1 e1 => ?_
    exact q _ upd_same (But.of e1).upd
/-- what follows a call -/
def AfterS (CC CP CS : Addr) (Hs : Hp) (S : Addr) (x : Kp430.State × Kp430.Ans) (Q : VK) : Prop := ∀ H' r, StIn CC CP CS Hs H' S x.1 → H' r = some (.lst (aL x.2)) → Hs r = none → Q (.ref r) H'
def spCreate (CC CP CS : Addr) : Sp := fun vs H Q _ => ∃ Hs S l ns st, vs = [.ref S, .ref l] ∧ StIn CC CP CS Hs H S st ∧ src Hs l = some (.lst (ns.map nV)) ∧ ns.length ≤ 12 ∧ AfterS CC CP CS Hs S (Kp430.step st (.create ns)) Q
theorem StIn.fresh {S q : Addr} {st : Kp430.State} (h : StIn CC CP CS Hs H S st) (hq : H q = none) : Hs q = none := by
  obtain ⟨_, _, _, _, e, _⟩ := h
  exact fresh_back e hq
theorem ret_errS {n : Int} {S : Addr} {st : Kp430.State} (hI : StIn CC CP CS Hs H S st) (ha : Ev te σ H (.int n)) (k : AfterS CC CP CS Hs S (st, Kp430.single n) D.rt) : tRet (tLst (tCons te tNil)) D σ H :=
  s_retL (el_lst (ea_cons ha ea_nil) (by show 1 ≤ 100000; decide)) fun r H1 hr e1 h => k H1 r (hI.mono e1) h (hI.fresh hr)
theorem PageL.sess {S dx : Addr} {v u : V} (h : PageL CC CP H a L p) (hS : H S = some (.ins CS dx (sF v))) : PageL CC CP (upd H S (.ins CS dx (sF u))) a L p := by
  have nl : ∀ {b : Addr} {xs : List V}, H b = some (.lst xs) → b ≠ S := fun e => ne_of e hS (by intro z; cases z)
  have nt : ∀ {b : Addr} {xs : List V}, H b = some (.tup xs) → b ≠ S := fun e => ne_of e hS (by intro z; cases z)
  refine ⟨?_, ?_, ?_, h.hcl, fun i c k h1 h2 => ?_, ?_, h.hql, fun i q k h1 h2 => ?_, ?_, h.hfl, fun i q k h1 h2 => ?_, ?_⟩
  · rw [upd_ne (ne_of h.ins hS sF_ne_p)]; exact h.ins
  · rw [upd_ne (nl h.hw)]; exact h.hw
  · rw [upd_ne (nl h.hc)]; exact h.hc
  · have q := h.hca i c k h1 h2
    exact ⟨by rw [upd_ne (ne_of q.ins hS sF_ne_c)]; exact q.ins, by rw [upd_ne (nl q.tps)]; exact q.tps⟩
  · rw [upd_ne (nl h.hq)]; exact h.hq
  · have e := h.hqa i q k h1 h2
    rw [upd_ne (nt e)]; exact e
  · rw [upd_ne (nl h.hf)]; exact h.hf
  · have e := h.hfa i q k h1 h2
    rw [upd_ne (nt e)]; exact e
  · rw [upd_ne (nl h.hp)]; exact h.hp
/-- self.page = Page(weights) -/
theorem q_newPage {tz : TS} {S dx l : Addr} {v : V} {ns : List Nat} {ta : TA} (T : Txt K mg CC CP CS) (hS : H S = some (.ins CS dx (sF v))) (ha : EvA ta σ H [.ref l]) (ho : ∀ H1, Ex H H1 → Ev to σ H1 (.ref S)) (hl : src Hs l = some (.lst (ns.map nV))) (h12 : ns.length ≤ 12) (ex : Ex Hs H)
    (hn : Hs S = none) (k : ∀ x H1, PageIn CC CP Hs (upd H1 S (.ins CS dx (sF (.ref x)))) x (page0 ns) → Ex Hs (upd H1 S (.ins CS dx (sF (.ref x)))) → tz D σ (upd H1 S (.ins CS dx (sF (.ref x))))) :
    tSeq (sFld K to (tMake CP (spPInit CC CP) [] E0 ta) "page") tz D σ H := ha H (Ex.refl H) _ fun H1 e1 => fun x dy nx nd ne => by
  have hl1 : H1 l = some (.lst (ns.map nV)) := e1 _ _ (ex _ _ (src_ex _ _ hl))
  refine ⟨x, dy, l, ns, rfl, upd_same, by rw [upd_ne (ne_of_none hl1 nx), upd_ne (ne_of_none hl1 nd)]; exact hl1, h12, fun H2 L hp haw hcs hnone hnd hb => ⟨rfl, ?_⟩⟩
  have e12 : Ex H1 H2 := fun b o q => hb b o (by rw [upd_ne (ne_of_none q nx), upd_ne (ne_of_none q nd)]; exact q) (ne_of_none q nx)
  have e02 := e1.trans e12
  refine ho H2 e02 H2 (Ex.refl _) _ fun H3 e3 => ⟨S, CS, dx, sF v, rfl, (e02.trans e3) _ _ hS, T.cSession, T.nS_page, by show 1 < 1000; decide, ?_⟩
  rw [sF_put]
  have hS3 := (e02.trans e3) _ _ hS
  have e03 := (ex.trans e02).trans e3
  have fr : ∀ {b : Addr}, H1 b = none → Hs b = none := fun q => fresh_back (ex.trans e1) q
  have hI : PageIn CC CP Hs (upd H3 S (.ins CS dx (sF (.ref x)))) x (page0 ns) := by
    refine ⟨L, (hp.mono e3).sess hS3, Ex.mut e03 hn, by rw [haw]; exact hl, fun i c q h => ?_, fr nx, fun b hb2 => ?_, fun c hc => ?_, hnd, ?_⟩
    · rw [hcs] at h; simp at h
    · have q := hnone b hb2
      have bx : b ≠ x := fun z => by rw [z, upd_same] at q; cases q
      rw [upd_ne bx] at q
      by_cases bd : b = dy
      · rw [bd]; exact fr nd
      · rw [upd_ne bd] at q
        exact fr q
    · rw [hcs] at hc; cases hc
    · rw [hcs]; exact List.nodup_nil
  exact k x H3 hI (Ex.mut e03 hn)
abbrev s_Session_create : Stmt := inClass (topS 117) 1
theorem sc_Session_create : FnScope ["self", "weights"] ["self", "weights"] (defScope s_Session_create) := ⟨rfl, rfl, rfl, by decide +kernel, rfl, by decide +kernel, by decide +kernel⟩
theorem ok_Session_create (T : Txt K mg CC CP CS) (F : MFunAt K CS "create" "Session.create" s_Session_create ["self", "weights"]) (D_weights_fit : DefAt P w K mg base 1 "weights_fit" ["weights"] (spV (rWeights K))) (D_Page : MakeAt P w K mg base 1 CP ["self", "weights"] (spPInit CC CP)) :
    MethAt P w K mg base 3 CS "create" ["self", "weights"] (spCreate CC CP CS) := by
  obtain ⟨f, fd, FF, hm, hb⟩ := F.ex
  refine ⟨f, fd, FF.ok sc_Session_create (fun vs H Q E h => ?_) (fun cdv A outer s H vs Q E hr h => ⟨_, (pss_cons (ps_if (pt_not (pt_val (pe_cd D_weights_fit (hr.mono (by decide)) pass0 (pa_cons (pv 1) pa_nil)))) (pss_one (ps_ret (pe_lst (pa_cons (pe_gi T.OUTSIDE_LIMITS) pa_nil)))) pss_nil)
      (pss_cons (sfldK (K := K) (pv 0) (pe_mk D_Page T.gPage (hr.mono (by decide)) pass0 (pa_cons (pv 1) pa_nil)))
      (pss_one (ps_ret (pe_lst (pa_cons pe_int pa_nil)))))), ?_⟩), hm, hb⟩
  · obtain ⟨_, _, _, _, _, rfl, _⟩ := h
    rfl
  · obtain ⟨Hs, S, l, ns, st, rfl, hst, hl, h12, k⟩ := h
    have hstep : Kp430.step st (.create ns) = if weightsOk ns = false then (st, Kp430.single (-22)) else (some (page0 ns), Kp430.single 0) := by cases st <;> rfl
    rw [hstep] at k
    have hst0 := hst
    obtain ⟨dx, v, hS, hn, ex, _⟩ := hst0
    refine q_when (et_not (et_B (ev_cd (z := .bl (weightsOk ns)) (ea_cons (ev_var rfl) ea_nil) fun H1 e1 => ⟨l, ns, rfl, sq_of (e1 _ _ (ex _ _ (src_ex _ _ hl))), h12, rfl⟩))) (fun hb H1 e1 => ?_) (fun hb H1 e1 => ?_)
    · rw [Bool.not_eq_true'] at hb
      rw [if_pos hb] at k
      exact ret_errS (hst.mono e1) ev_c k
    · rw [Bool.not_eq_false'] at hb
      rw [if_neg (by rw [hb]; decide)] at k
      refine q_newPage T (e1 _ _ hS) (ea_cons (ev_var rfl) ea_nil) (fun _ _ => ev_var rfl) hl h12 (ex.trans e1) hn fun x H2 hI e2 => ?_
      exact ret_errS (st := some (page0 ns)) ⟨dx, .ref x, upd_same, hn, e2, x, rfl, hI, wf_create hb⟩ ev_c k
end
end Ps
end

section
set_option maxRecDepth 100000
set_option maxHeartbeats 2000000
namespace Ps
open PySem PySem.Spec PyProof.Rows L2 Evl
open Kp430 (Page Candidate Quota)
section
variable {P : Program} {w : World} {K : PySem.W.Frag} {mg : Str → Option Value} {base : Heap} {CC CP CS : Addr} {σ : L2.St} {H : Hp} {D : Ends} {a : Addr} {L : Lay} {p : Page} {tp tc tl te : TE}
/-! ### prices_fit, tuning_fits -/
def rPricesFit (K : PySem.W.Frag) : List V → Hp → V → Prop := fun vs H z => ∃ l ns, vs = [.ref l] ∧ SqL K H l (ns.map V.int) ∧ ns.length ≤ 12 ∧ z = .bl (Kp430.validPrices ns)
abbrev s_prices_fit : Stmt := topS 30
theorem sc_prices_fit : FnScope ["prices", "price"] ["prices"] (defScope s_prices_fit) := ⟨rfl, rfl, rfl, by decide +kernel, rfl, by decide +kernel, by decide +kernel⟩
theorem ok_prices_fit (T : Txt K mg CC CP CS) (F : FunAt K mg "prices_fit" s_prices_fit ["prices"]) : DefAt P w K mg base 1 "prices_fit" ["prices"] (spV (rPricesFit K)) := by
  obtain ⟨f, fd, FF, hm, hb⟩ := F.ex
  refine ⟨f, fd, FF.ok sc_prices_fit (fun vs H Q E h => ?_) (fun cdv A outer s H vs Q E hr h => ⟨_, (pss_cons (ps_if (pt_cmpR op_ne (pe_callB (lenK (K := K)) (by rfl) T.len (by decide +kernel) (pa_cons (pv 0) pa_nil)) (pe_gi T.GROUP_COUNT) (nomark _)) (pss_one (ps_ret pe_bl)) pss_nil)
      (pss_one (ps_ret (pe_callB (allK (K := K)) (by rfl) T.all (by decide +kernel) (pa_cons (pe_lc (own := [("price", 1)]) rfl sc_prices_fit.nd (wList (K := K) (pv 0)) (blkOk_by (own := [("price", 1)]) (N := ["prices", "price"]) (sc := defScope s_prices_fit) (by decide +kernel)) (fun _ _ _ _ _ => pg_name (i := 1) sc_prices_fit.nd rfl (Or.inl rfl)) (fun _ _ _ _ _ => pts_nil) (fun _ _ _ _ _ => (pe_chain op_le op_le (pe_gi T.LEAST_PRICE) (pv 1) (pe_gi T.GREATEST_PRICE)))) pa_nil))))), ?_⟩), hm, FF.kp, hb⟩
  · obtain ⟨z, ⟨l, ns, rfl, _⟩, _⟩ := h
    rfl
  · obtain ⟨z, ⟨l, ns, rfl, hS, h12, rfl⟩, k⟩ := h
    have hv : ∀ H1, Ex H H1 → ∀ σ : L2.St, σ[0]? = some (some (.ref l)) → EvS K (tVar 0) σ H1 (ns.map V.int) := fun H1 e σ h0 => es_of (ev_var h0) (ex_l e hS)
    refine q_when (et_test (ev_op (ev_lenS (hv H (Ex.refl H) _ rfl)) ev_c (rv_ne rfl))) (fun hc H1 e1 => s_ret ev_c fun H2 e2 => ?_) (fun hc H1 e1 => ?_)
    · have : Kp430.validPrices ns = false := by
        unfold Kp430.validPrices Kp430.groupCount
        rw [List.length_map, Bool.not_eq_true', decide_eq_false_iff_not] at hc
        have : ¬ ns.length = 6 := fun q => hc (by rw [q]; rfl)
        simp [this]
      rw [this] at k
      exact k H2 (e1.trans e2)
    · rw [List.length_map, Bool.not_eq_false', decide_eq_true_eq] at hc
      have h6 : ns.length = 6 := by injection hc with hc; omega
      refine s_ret (ev_is (ev_allS (bs := ns.map fun n => decide (-1000000000 ≤ n) && decide (n ≤ 1000000000)) (es_new (EvL.is (el_lcM (l := ns) (r := V.int) (g := fun n : Int => V.bl (decide (-1000000000 ≤ n) && decide (n ≤ 1000000000))) (hv H1 e1 _ (by rfl)) (by omega) (by intro _; rfl) fun n H2 e2 _ => ?_) ?_))) ?_) fun H2 e2 => k H2 (e1.trans e2)
      · exact ev_chain ev_c (ev_var rfl) ev_c
      · rw [List.map_map]; rfl
      · unfold Kp430.validPrices Kp430.groupCount
        rw [h6, List.all_map]
        rfl
def rTuningFits : List V → Hp → V → Prop := fun vs H z => ∃ size rounds : Nat, vs = [nV size, nV rounds] ∧ z = .bl (decide (1 ≤ size) && decide (size ≤ 1000000) && decide (rounds ≤ 20))
abbrev s_tuning_fits : Stmt := topS 31
theorem sc_tuning_fits : FnScope ["size", "rounds"] ["size", "rounds"] (defScope s_tuning_fits) := ⟨rfl, rfl, rfl, by decide +kernel, rfl, by decide +kernel, by decide +kernel⟩
theorem ok_tuning_fits (T : Txt K mg CC CP CS) (F : FunAt K mg "tuning_fits" s_tuning_fits ["size", "rounds"]) : DefAt P w K mg base 1 "tuning_fits" ["size", "rounds"] (spV rTuningFits) := by
  obtain ⟨f, fd, FF, hm, hb⟩ := F.ex
  refine ⟨f, fd, FF.ok sc_tuning_fits (fun vs H Q E h => ?_) (fun cdv A outer s H vs Q E hr h => ⟨_, (pss_one (ps_ret (pe_and (pe_chain op_le op_le pe_int (pv 0) (pe_gi T.GREATEST_SIZE)) (pe_one (pe_cmpR op_le (pv 1) (pe_gi T.MOST_ROUNDS) (nomark _)))))), ?_⟩), hm, FF.kp, hb⟩
  · obtain ⟨z, ⟨_, _, rfl, _⟩, _⟩ := h
    rfl
  · obtain ⟨z, ⟨size, rounds, rfl, rfl⟩, k⟩ := h
    refine s_ret (ev_is (ev_andV (ev_chain ev_c (ev_var rfl) ev_c) fun _ => ev_op (ev_var rfl) ev_c rv_I0) ?_) fun H1 e1 => k H1 e1
    congr 2
    · congr 1
      · apply decide_eq_decide.mpr; omega
      · apply decide_eq_decide.mpr; omega
    · apply decide_eq_decide.mpr; omega
/-! ### the candidates by their numbers -/
def cAt (L : Lay) (i : Nat) : CL := L.cs.getD i ⟨0, 0, 0⟩
theorem cands_by (h : PageL CC CP H a L p) : (L.cs.map fun c => V.ref c.at_) = (Kp430.all p).map fun i => V.ref (cAt L i).at_ := by
  unfold Kp430.all cAt
  rw [← h.hcl]
  refine List.ext_getElem (by simp) fun i h1 h2 => ?_
  simp only [List.length_map] at h1
  simp [List.getD_eq_getElem?_getD, h1]
theorem cand_by (h : PageL CC CP H a L p) {i : Nat} (hi : i < p.candidates.length) : CandAt CC H (cAt L i) (Kp430.at_ p i) := by
  obtain ⟨k, hk, hc⟩ := h.cand hi
  unfold cAt
  rw [List.getD_eq_getElem?_getD, hk]
  exact hc
theorem es_cands (T : Txt K mg CC CP CS) (h : PageL CC CP H a L p) (e : Ev tp σ H (.ref a)) : EvS K (tFld K tp "candidates") σ H ((Kp430.all p).map fun i => V.ref (cAt L i).at_) := by
  rw [← cands_by h]
  exact es_of (pg_candidates T h e) (sq_of h.hc)
theorem mem_all {i : Nat} : i ∈ Kp430.all p ↔ i < p.candidates.length := List.mem_range
/-! ### bounds -/
/-- a page and six prices -/
structure AskP (K : PySem.W.Frag) (CC CP : Addr) (vs : List V) (H : Hp) (a l : Addr) (p : Page) (ns : List Int) : Prop where
  vs : vs = [.ref a, .ref l]
  pg : PageAt CC CP H a p
  wf : Wf p
  ls : SqL K H l (ns.map V.int)
  six : ns.length = 6
theorem AskP.mono {vs : List V} {H H' : Hp} {a l : Addr} {p : Page} {ns : List Int} (h : AskP K CC CP vs H a l p ns) (e : Ex H H') : AskP K CC CP vs H' a l p ns := { h with pg := h.pg.mono e, ls := ex_l e h.ls }
def rPrc (K : PySem.W.Frag) (CC CP : Addr) (F : Page → List Int → Int) : List V → Hp → V → Prop := fun vs H z => ∃ a l p ns, AskP K CC CP vs H a l p ns ∧ z = .int (F p ns)
theorem price_at {ns : List Int} {g : Nat} (h : g < ns.length) : ns[g]? = some (Kp430.price ns g) := by
  unfold Kp430.price
  rw [List.getD_eq_getElem?_getD, List.getElem?_eq_getElem h]; rfl
theorem sum_take {l : List Nat} {F : Nat → Int} {i x : Nat} (h : l[i]? = some x) : ((l.take i).map F).sum + F x = ((l.take (i + 1)).map F).sum := by
  rw [List.take_add_one, h]
  simp
abbrev s_position_part : Stmt := topS 38
theorem sc_position_part : FnScope ["page", "prices", "total", "weight", "candidate"] ["page", "prices"] (defScope s_position_part) := ⟨rfl, rfl, rfl, by decide +kernel, rfl, by decide +kernel, by decide +kernel⟩
theorem ok_position_part (T : Txt K mg CC CP CS) (F : FunAt K mg "position_part" s_position_part ["page", "prices"]) : DefAt P w K mg base 1 "position_part" ["page", "prices"] (spV (rPrc K CC CP fun p ns => (Kp430.positionBounds p ns).sum)) := by
  obtain ⟨f, fd, FF, hm, hb⟩ := F.ex
  refine ⟨f, fd, FF.ok sc_position_part (fun vs H Q E h => ?_) (fun cdv A outer s H vs Q E hr h => ⟨_, (pss_cons (ps_if (pt_not (truK (K := K) (fldK (K := K) (pv 0)))) (pss_one (ps_ret pe_int)) pss_nil)
      (pss_cons (ps_set (i := 2) sc_position_part.nd rfl (Or.inl rfl) pe_int)
      (pss_cons (ps_for PassesOwn.never rfl (wList (K := K) (fldK (K := K) (pv 0))) (pg_name (i := 3) sc_position_part.nd rfl (Or.inr rfl))
        (pss_one (ps_aug (i := 2) sc_position_part.nd rfl (Or.inl rfl) (pe_callB (maxK (K := K)) (by rfl) T.max (by decide +kernel) (pa_cons (pe_lc (own := [("candidate", 4)]) rfl sc_position_part.nd (wList (K := K) (fldK (K := K) (pv 0))) (blkOk_by (own := [("candidate", 4)]) (N := ["page", "prices", "total", "weight", "candidate"]) (sc := defScope s_position_part) (by decide +kernel)) (fun _ _ _ _ _ => pg_name (i := 4) sc_position_part.nd rfl (Or.inl rfl)) (fun _ _ _ _ _ => pts_nil) (fun _ _ _ _ _ => (pe_op op_sub (pe_op op_mul (pv 3) (fldK (K := K) (pv 4))) (pe_ix (ixL (K := K)) (pv 1) (fldK (K := K) (pv 4)) (fun _ _ => rfl))))) pa_nil)) ip_add)))
      (pss_one (ps_ret (pv 2)))))), ?_⟩), hm, FF.kp, hb⟩
  · obtain ⟨z, ⟨_, _, _, _, ⟨rfl, _⟩, _⟩, _⟩ := h
    rfl
  · obtain ⟨z, ⟨a, l, p, ns, ⟨rfl, ⟨L, hp⟩, wf, hS, h6⟩, rfl⟩, k⟩ := h
    refine q_when (et_not (et_tru (es_cands T hp (ev_var rfl)))) (fun hb H1 e1 => ?_) (fun hb H1 e1 => ?_)
    · have h0 : p.candidates.length = 0 := by
        simp [Kp430.all] at hb
        simpa using hb
      refine s_ret ev_c fun H2 e2 => ?_
      have : (Kp430.positionBounds p ns).sum = 0 := by
        unfold Kp430.positionBounds Kp430.all
        rw [h0]
        have : ∀ ws : List Nat, (ws.map fun w => Kp430.maximum ((List.range 0).map fun c => ((w * (Kp430.at_ p c).score : Nat) : Int) - Kp430.price ns (Kp430.at_ p c).group)).sum = 0 := by
          intro ws
          induction ws with
          | nil => rfl
          | cons w ws ih => rw [List.map_cons, List.sum_cons, ih]; rfl
        exact this p.weights
      have k : RetV (V.int (Kp430.positionBounds p ns).sum) H Q := k
      rw [this] at k
      exact k H2 (e1.trans e2)
    · have hne : Kp430.all p ≠ [] := by
        intro q
        rw [q] at hb
        simp at hb
      refine q_asg ev_c fun H2 e2 => ?_
      have E2 := e1.trans e2
      refine seq_of (s_forA (l := p.weights) (r := nV) (es_of (pg_weights T (hp.mono E2) (ev_var rfl)) (sq_of (hp.mono E2).hw)) fun H3 e3 => ⟨fun i σ' H' => ∃ v3, σ' = [some (.ref a), some (.ref l), some (.int (((p.weights.take i).map fun w => Kp430.maximum ((Kp430.all p).map fun c => ((w * (Kp430.at_ p c).score : Nat) : Int) - Kp430.price ns (Kp430.at_ p c).group)).sum)), v3, none] ∧ Ex H3 H',
        ⟨none, rfl, Ex.refl _⟩, fun b hb i σ' H' ⟨_, _, q⟩ => ex_l q hb, ?_, ?_⟩)
      · rintro i u σ' H' hu ⟨v3, rfl, eH⟩
        have E := (E2.trans e3).trans eH
        have hur := wf.wr u (List.mem_of_getElem? hu)
        refine s_aug rfl (ev_maxS (ns := (Kp430.all p).map fun c => ((u * (Kp430.at_ p c).score : Nat) : Int) - Kp430.price ns (Kp430.at_ p c).group) (es_new (EvL.is (el_lcM (g := fun c => V.int (((u * (Kp430.at_ p c).score : Nat) : Int) - Kp430.price ns (Kp430.at_ p c).group)) (es_cands T (hp.mono E) (ev_var rfl)) (by have := wf.cn; unfold Kp430.all; rw [List.length_range]; omega) (by intro _; rfl) fun c H5 e5 hc => ?_) ?_)) (by simpa using hne)) fun H5 e5 => ?_
        · have hc := mem_all.mp hc
          have hk := cand_by (hp.mono (E.trans e5)) hc
          have hg := (at_ok wf hc).gr
          exact ev_is (ev_op (ev_op (ev_var rfl) (cd_score T hk (ev_var rfl)) (rv_I (.inl ⟨by omega, by omega⟩))) (ev_ixS (es_of (ev_var (by rfl)) (ex_l (E.trans e5) hS)) (cd_group T hk (ev_var rfl)) (atI_nat (by rw [List.getElem?_map, price_at (by omega)]; rfl))) rv_I0) (by simp)
        · rw [List.map_map]; rfl
        · refine ⟨some (nV u), ?_, eH.trans e5⟩
          rw [← sum_take hu]
          rfl
      · rintro σ' H' ⟨v3, rfl, eH⟩
        refine s_ret (ev_var rfl) fun H5 e5 => ?_
        rw [List.take_length]
        exact k H5 (((E2.trans e3).trans eH).trans e5)
end
end Ps
end

section
set_option maxRecDepth 100000
set_option maxHeartbeats 2000000
namespace Ps
open PySem PySem.Spec PyProof.Rows L2 Evl
open Kp430 (Page Candidate Quota)
section
variable {P : Program} {w : World} {K : PySem.W.Frag} {mg : Str → Option Value} {base : Heap} {CC CP CS : Addr} {σ : L2.St} {H : Hp} {D : Ends} {a : Addr} {L : Lay} {p : Page} {tp tc tl te : TE}
def quotaTerm (p : Page) (ns : List Int) (g : Nat) : Int := if 0 ≤ Kp430.price ns g then Kp430.price ns g * ((Kp430.quotaOf p g).upper : Nat) else Kp430.price ns g * ((Kp430.quotaOf p g).lower : Nat)
theorem quota_sum (p : Page) (ns : List Int) : Kp430.quotaBounds p ns = ((List.range 6).map (quotaTerm p ns)).sum := rfl
theorem range_sum {F : Nat → Int} {i : Nat} : ((List.range i).map F).sum + F i = ((List.range (i + 1)).map F).sum := by
  rw [List.range_succ]
  simp
abbrev s_quota_part : Stmt := topS 39
theorem sc_quota_part : FnScope ["page", "prices", "total", "price", "quota"] ["page", "prices"] (defScope s_quota_part) := ⟨rfl, rfl, rfl, by decide +kernel, rfl, by decide +kernel, by decide +kernel⟩
theorem ok_quota_part (T : Txt K mg CC CP CS) (F : FunAt K mg "quota_part" s_quota_part ["page", "prices"]) : DefAt P w K mg base 1 "quota_part" ["page", "prices"] (spV (rPrc K CC CP Kp430.quotaBounds)) := by
  obtain ⟨f, fd, FF, hm, hb⟩ := F.ex
  refine ⟨f, fd, FF.ok sc_quota_part (fun vs H Q E h => ?_) (fun cdv A outer s H vs Q E hr h => ⟨_, (pss_cons (ps_set (i := 2) sc_quota_part.nd rfl (Or.inl rfl) pe_int)
      (pss_cons (ps_for PassesOwn.never rfl (wZip (K := K) T.zip (pa_cons (pv 1) (pa_cons (fldK (K := K) (pv 0)) pa_nil))) (gTupK (K := K) (n := 2) (pgs_cons (pg_name (i := 3) sc_quota_part.nd rfl (Or.inl rfl)) (pgs_cons (pg_name (i := 4) sc_quota_part.nd rfl (Or.inl rfl)) pgs_nil)))
        (pss_one (ps_if (pt_cmpR op_lt (pv 3) pe_int (nomark _)) (pss_one (ps_aug (i := 2) sc_quota_part.nd rfl (Or.inl rfl) (pe_op op_mul (pv 3) (pe_ix (ixT (K := K)) (pv 4) pe_int (fun _ _ => rfl))) ip_add)) (pss_one (ps_aug (i := 2) sc_quota_part.nd rfl (Or.inl rfl) (pe_op op_mul (pv 3) (pe_ix (ixT (K := K)) (pv 4) pe_int (fun _ _ => rfl))) ip_add)))))
      (pss_one (ps_ret (pv 2))))), ?_⟩), hm, FF.kp, hb⟩
  · obtain ⟨z, ⟨_, _, _, _, ⟨rfl, _⟩, _⟩, _⟩ := h
    rfl
  · obtain ⟨z, ⟨a, l, p, ns, ⟨rfl, ⟨L, hp⟩, wf, hS, h6⟩, rfl⟩, k⟩ := h
    refine q_asg ev_c fun H1 e1 => ?_
    refine q_forZ (l := ns) (m := L.qs) (r := V.int) (s := V.ref) (ez_of (es_of (ev_var (by rfl)) (ex_l e1 hS)) (es_of (pg_quotas T (hp.mono e1) (ev_var rfl)) (sq_of (hp.mono e1).hq))) fun H2 e2 => ⟨fun i σ' H' => ∃ v3 v4, σ' = [some (.ref a), some (.ref l), some (.int ((List.range i).map (quotaTerm p ns)).sum), v3, v4] ∧ Ex H2 H',
      ⟨none, none, rfl, Ex.refl _⟩, fun i σ' H' ⟨_, _, _, q⟩ => q, ?_, ?_⟩
    · rintro i x q t σ' H' hx hq ⟨v3, v4, rfl, eH⟩ ht
      have E := ((e1.trans e2).trans eH).trans (Ex.new ht (o := .tup [.int x, .ref q]))
      have hi : i < p.quotas.length := by
        have := (List.getElem?_eq_some_iff.mp hq).1
        rw [hp.hql] at this
        exact this
      have hqt := E _ _ (hp.hqa i q _ hq (List.getElem?_eq_getElem hi))
      have hqo : Kp430.quotaOf p i = p.quotas[i] := by
        unfold Kp430.quotaOf
        rw [List.getD_eq_getElem?_getD, List.getElem?_eq_getElem hi]; rfl
      have hpr : Kp430.price ns i = x := by
        unfold Kp430.price
        rw [List.getD_eq_getElem?_getD, hx]; rfl
      have hqs := wf.qs _ (List.getElem_mem hi)
      refine g_pair upd_same ?_
      have fin : ∀ H5, Ex (upd H' t (.tup [.int x, .ref q])) H5 → ∀ z : Int, z = quotaTerm p ns i → (∃ v3 v4, [some (V.ref a), some (.ref l), some (.int (((List.range i).map (quotaTerm p ns)).sum + z)), some (.int x), some (.ref q)] = [some (V.ref a), some (.ref l), some (.int ((List.range (i + 1)).map (quotaTerm p ns)).sum), v3, v4] ∧ Ex H2 H5) := by
        rintro H5 e5 z rfl
        refine ⟨some (.int x), some (.ref q), ?_, (eH.trans (Ex.new ht)).trans e5⟩
        rw [range_sum]
      refine s_if (et_test (ev_op (ev_var rfl) ev_c rv_I0)) (fun hb H4 e4 => ?_) (fun hb H4 e4 => ?_)
      · have hb : x < 0 := of_decide_eq_true hb
        refine s_aug rfl (ev_op (ev_var rfl) (ev_ixT (ev_var rfl) (st_of (e4 _ _ hqt)) ev_c (atI_nat (j := 0) rfl)) (rv_I (.inr ⟨by omega, by omega⟩))) fun H5 e5 => fin H5 (e4.trans e5) _ ?_
        unfold quotaTerm
        rw [hpr, if_neg (by omega), hqo]
      · have hb : ¬ x < 0 := of_decide_eq_false hb
        refine s_aug rfl (ev_op (ev_var rfl) (ev_ixT (ev_var rfl) (st_of (e4 _ _ hqt)) ev_c (atI_nat (j := 1) rfl)) (rv_I (.inr ⟨by omega, by omega⟩))) fun H5 e5 => fin H5 (e4.trans e5) _ ?_
        unfold quotaTerm
        rw [hpr, if_pos (by omega), hqo]
    · rintro σ' H' ⟨v3, v4, rfl, eH⟩
      refine s_ret (ev_var rfl) fun H5 e5 => ?_
      have em : min ns.length L.qs.length = 6 := by rw [hp.hql, wf.qn, h6]; rfl
      rw [em]
      exact k H5 (((e1.trans e2).trans eH).trans e5)
/-! ### coverage_bound -/
def rPg (CC CP : Addr) (F : Page → V) : List V → Hp → V → Prop := fun vs H z => ∃ a p, vs = [.ref a] ∧ PageAt CC CP H a p ∧ Wf p ∧ z = F p
theorem cast_sumV {l : List Nat} : (l.map nV) = (l.map fun n : Nat => (n : Int)).map V.int := by rw [List.map_map]; rfl
abbrev s_coverage_bound : Stmt := topS 40
theorem sc_coverage_bound : FnScope ["page", "topic_counts", "together", "candidate"] ["page"] (defScope s_coverage_bound) := ⟨rfl, rfl, rfl, by decide +kernel, rfl, by decide +kernel, by decide +kernel⟩
theorem ok_coverage_bound (T : Txt K mg CC CP CS) (F : FunAt K mg "coverage_bound" s_coverage_bound ["page"]) (D_coverage_of : DefAt P w K mg base 1 "coverage_of" ["page", "listed"] (spV (rCov K CC CP))) : DefAt P w K mg base 2 "coverage_bound" ["page"] (spV (rPg CC CP fun p => nV (Kp430.coverageBound p))) := by
  obtain ⟨f, fd, FF, hm, hb⟩ := F.ex
  refine ⟨f, fd, FF.ok sc_coverage_bound (fun vs H Q E h => ?_) (fun cdv A outer s H vs Q E hr h => ⟨_, (pss_cons (ps_set (i := 1) sc_coverage_bound.nd rfl (Or.inl rfl) (pe_callBK (sortedRevK (b := true) (K := K)) (by rfl) T.sorted (by decide +kernel) (pa_cons (pe_lc (own := [("candidate", 3)]) rfl sc_coverage_bound.nd (wList (K := K) (fldK (K := K) (pv 0))) (blkOk_by (own := [("candidate", 3)]) (N := ["page", "topic_counts", "together", "candidate"]) (sc := defScope s_coverage_bound) (by decide +kernel)) (fun _ _ _ _ _ => pg_name (i := 3) sc_coverage_bound.nd rfl (Or.inl rfl)) (fun _ _ _ _ _ => pts_nil) (fun _ _ _ _ _ => (pe_callB (lenK (K := K)) (by rfl) T.len (by decide +kernel) (pa_cons (fldK (K := K) (pv 3)) pa_nil)))) pa_nil) (pk_cons pe_bl pk_nil)))
      (pss_cons (ps_set (i := 2) sc_coverage_bound.nd rfl (Or.inl rfl) (pe_cd D_coverage_of (hr.mono (by decide)) pass0 (pa_cons (pv 0) (pa_cons (pe_listRg (by rfl) (by rfl) T.list (prg_1 (by rfl) T.range (pe_callB (lenK (K := K)) (by rfl) T.len (by decide +kernel) (pa_cons (fldK (K := K) (pv 0)) pa_nil)))) pa_nil))))
      (pss_one (ps_ret (pe_callB min2K (by rfl) T.min (by decide +kernel) (pa_cons (pv 2) (pa_cons (pe_callB (sumK (K := K)) (by rfl) T.sum (by decide +kernel) (pa_cons (pe_slice (slL (K := K)) (pv 1) po_none (po_some (pe_callB (lenK (K := K)) (by rfl) T.len (by decide +kernel) (pa_cons (fldK (K := K) (pv 0)) pa_nil)))) pa_nil)) pa_nil))))))), ?_⟩), hm, FF.kp, hb⟩
  · obtain ⟨z, ⟨_, _, rfl, _⟩, _⟩ := h
    rfl
  · obtain ⟨z, ⟨a, p, rfl, ⟨L, hp⟩, wf, rfl⟩, k⟩ := h
    have hcn := wf.cn
    have hall : (Kp430.all p).length ≤ 9 := by unfold Kp430.all; rw [List.length_range]; exact hcn
    refine q_asgL (el_sortRev (l := (Kp430.all p).map fun c => (Kp430.at_ p c).topics.length) (es_new (EvL.is (el_lcM (g := fun c => nV (Kp430.at_ p c).topics.length) (es_cands T hp (ev_var rfl)) (by omega) (by intro _; rfl) fun c H1 e1 hc => ?_) ?_)) ev_c) fun d H1 hd e1 h1 => ?_
    · have hk := cand_by (hp.mono e1) (mem_all.mp hc)
      exact ev_is (ev_lenS (es_of (cd_topics T hk (ev_var rfl)) (sq_of hk.tps))) (by rw [List.length_map])
    · rw [List.map_map]; rfl
    refine q_asg (v := nV (Kp430.covered p (Kp430.all p)).length) (ev_cdK (ev_var rfl) (ek_new (el_range (pg_lenC T (hp.mono e1) (ev_var rfl)) (by omega))) fun r H2 e2 h2 => ⟨a, r, p, Kp430.all p, ⟨rfl, ⟨L, hp.mono (e1.trans e2)⟩, wf, sq_of h2, fun n hn => mem_all.mp hn, hall⟩, rfl⟩) fun H2 e2 => ?_
    · have E2 := e1.trans e2
      refine s_ret (ev_is (ev_min2 (ev_var rfl) (ev_sumS (ns := ((downs' ((Kp430.all p).map fun c => (Kp430.at_ p c).topics.length)).take p.weights.length).map fun n : Nat => (n : Int)) (EvS.is (es_new (es_sl (es_of (ev_var (by rfl)) (sq_of (e2 _ _ h1))) eo_none (eo_some (pg_lenW T (hp.mono E2) (ev_var rfl))))) ?_))) ?_) fun H3 e3 => k H3 (E2.trans e3)
      · rw [← cast_sumV, List.map_take]
        unfold cutV
        rw [HT.sIx_nat, HT.sIx_none]
        simp only [List.drop_zero, Nat.sub_zero]
        rw [List.length_map]
        by_cases q : p.weights.length ≤ (downs' ((Kp430.all p).map fun c => (Kp430.at_ p c).topics.length)).length
        · rw [Nat.min_eq_left q]
        · rw [Nat.min_eq_right (by omega), List.take_of_length_le (by rw [List.length_map]; omega), List.take_of_length_le (by rw [List.length_map]; omega)]
      · rw [cast_sum]
        unfold Kp430.coverageBound Kp430.positions
        show V.int (if ((((downs' ((Kp430.all p).map fun c => (Kp430.at_ p c).topics.length)).take p.weights.length).sum : Nat) : Int) < (((Kp430.covered p (Kp430.all p)).length : Nat) : Int) then _ else _) = V.int _
        congr 1
        show _ = ((min (Kp430.covered p (Kp430.all p)).length ((downs' ((Kp430.all p).map fun c => (Kp430.at_ p c).topics.length)).take p.weights.length).sum : Nat) : Int)
        split <;> omega
/-! ### bound_of, bound -/
theorem cov_bound_le (p : Page) : Kp430.coverageBound p ≤ 12 := Nat.le_trans (Nat.min_le_left _ _) (covered_le _ _)
abbrev s_bound_of : Stmt := topS 41
theorem sc_bound_of : FnScope ["page", "prices"] ["page", "prices"] (defScope s_bound_of) := ⟨rfl, rfl, rfl, by decide +kernel, rfl, by decide +kernel, by decide +kernel⟩
theorem ok_bound_of (T : Txt K mg CC CP CS) (F : FunAt K mg "bound_of" s_bound_of ["page", "prices"]) (D_position_part : DefAt P w K mg base 1 "position_part" ["page", "prices"] (spV (rPrc K CC CP fun p ns => (Kp430.positionBounds p ns).sum)))
    (D_quota_part : DefAt P w K mg base 1 "quota_part" ["page", "prices"] (spV (rPrc K CC CP Kp430.quotaBounds))) (D_coverage_bound : DefAt P w K mg base 2 "coverage_bound" ["page"] (spV (rPg CC CP fun p => nV (Kp430.coverageBound p)))) :
    DefAt P w K mg base 3 "bound_of" ["page", "prices"] (spV (rPrc K CC CP Kp430.bound)) := by
  obtain ⟨f, fd, FF, hm, hb⟩ := F.ex
  refine ⟨f, fd, FF.ok sc_bound_of (fun vs H Q E h => ?_) (fun cdv A outer s H vs Q E hr h => ⟨_, (pss_one (ps_ret (pe_op op_add (pe_op op_add (pe_cd D_position_part (hr.mono (by decide)) pass0 (pa_cons (pv 0) (pa_cons (pv 1) pa_nil))) (pe_cd D_quota_part (hr.mono (by decide)) pass0 (pa_cons (pv 0) (pa_cons (pv 1) pa_nil)))) (pe_op op_mul (fldK (K := K) (pv 0)) (pe_cd D_coverage_bound (hr.mono (by decide)) pass0 (pa_cons (pv 0) pa_nil)))))), ?_⟩), hm, FF.kp, hb⟩
  · obtain ⟨z, ⟨_, _, _, _, ⟨rfl, _⟩, _⟩, _⟩ := h
    rfl
  · obtain ⟨z, ⟨a, l, p, ns, hA, rfl⟩, k⟩ := h
    have hA' := hA
    obtain ⟨rfl, ⟨L, hp⟩, wf, hS, h6⟩ := hA'
    have hdv := wf.dv
    refine s_ret (ev_is (ev_op (ev_op (ev_cd (ea_cons (ev_var rfl) (ea_cons (ev_var rfl) ea_nil)) fun H1 e1 => ⟨a, l, p, ns, hA.mono e1, rfl⟩) (ev_cd (ea_cons (ev_var rfl) (ea_cons (ev_var rfl) ea_nil)) fun H1 e1 => ⟨a, l, p, ns, hA.mono e1, rfl⟩) rv_I0)
      (ev_op (pg_diversity T hp (ev_var rfl)) (ev_cd (ea_cons (ev_var rfl) ea_nil) fun H1 e1 => ⟨a, p, rfl, ⟨L, hp.mono e1⟩, wf, rfl⟩) (rv_I (.inl ⟨by omega, by omega⟩))) rv_I0) ?_) fun H1 e1 => k H1 e1
    unfold Kp430.bound
    simp
/-- a question about a page and a row of whole numbers -/
structure AskedI (K : PySem.W.Frag) (CC CP : Addr) (H : Hp) (a l : Addr) (p : Page) (ns : List Int) : Prop where
  pg : PageAt CC CP H a p
  wf : Wf p
  lst : H l = some (.lst (ns.map V.int))
  few : ns.length ≤ 12
theorem AskedI.mono {H H' : Hp} {a l : Addr} {p : Page} {ns : List Int} (h : AskedI K CC CP H a l p ns) (e : Ex H H') : AskedI K CC CP H' a l p ns := { h with pg := h.pg.mono e, lst := e _ _ h.lst }
theorem AskedI.prices {H : Hp} {a l : Addr} {p : Page} {ns : List Int} (h : AskedI K CC CP H a l p ns) (hv : Kp430.validPrices ns = true) : AskP K CC CP [.ref a, .ref l] H a l p ns := ⟨rfl, h.pg, h.wf, sq_of h.lst, by
  unfold Kp430.validPrices at hv
  rw [Bool.and_eq_true, beq_iff_eq] at hv
  exact hv.1⟩
theorem ev_pf {H : Hp} {l : Addr} {ns : List Int} (h : H l = some (.lst (ns.map V.int))) (h12 : ns.length ≤ 12) (e : Ev te σ H (.ref l)) : Ev (tCall (spV (rPricesFit K)) [] E0 (tCons te tNil)) σ H (.bl (Kp430.validPrices ns)) :=
  ev_cd (ea_cons e ea_nil) fun H1 e1 => ⟨l, ns, rfl, sq_of (e1 _ _ h), h12, rfl⟩
def rBound (K : PySem.W.Frag) (CC CP : Addr) : List V → Hp → List V → Prop := fun vs H xs => ∃ a l p ns, vs = [.ref a, .ref l] ∧ AskedI K CC CP H a l p ns ∧ xs = aL (Kp430.step (some p) (.bound ns)).2
abbrev s_bound : Stmt := topS 42
theorem sc_bound : FnScope ["page", "prices"] ["page", "prices"] (defScope s_bound) := ⟨rfl, rfl, rfl, by decide +kernel, rfl, by decide +kernel, by decide +kernel⟩
theorem ok_bound (T : Txt K mg CC CP CS) (F : FunAt K mg "bound" s_bound ["page", "prices"]) (D_prices_fit : DefAt P w K mg base 1 "prices_fit" ["prices"] (spV (rPricesFit K))) (D_position_part : DefAt P w K mg base 1 "position_part" ["page", "prices"] (spV (rPrc K CC CP fun p ns => (Kp430.positionBounds p ns).sum)))
    (D_quota_part : DefAt P w K mg base 1 "quota_part" ["page", "prices"] (spV (rPrc K CC CP Kp430.quotaBounds))) (D_coverage_bound : DefAt P w K mg base 2 "coverage_bound" ["page"] (spV (rPg CC CP fun p => nV (Kp430.coverageBound p)))) (D_bound_of : DefAt P w K mg base 3 "bound_of" ["page", "prices"] (spV (rPrc K CC CP Kp430.bound))) :
    DefAt P w K mg base 4 "bound" ["page", "prices"] (spL (rBound K CC CP)) := by
  obtain ⟨f, fd, FF, hm, hb⟩ := F.ex
  refine ⟨f, fd, FF.ok sc_bound (fun vs H Q E h => ?_) (fun cdv A outer s H vs Q E hr h => ⟨_, (pss_cons (ps_if (pt_not (pt_val (pe_cd D_prices_fit (hr.mono (by decide)) pass0 (pa_cons (pv 1) pa_nil)))) (pss_one (ps_ret (pe_lst (pa_cons (pe_gi T.OUTSIDE_LIMITS) pa_nil)))) pss_nil)
      (pss_one (ps_ret (pe_lst (pa_cons pe_int (pa_cons (pe_cd D_bound_of (hr.mono (by decide)) pass0 (pa_cons (pv 0) (pa_cons (pv 1) pa_nil))) (pa_cons (pe_cd D_position_part (hr.mono (by decide)) pass0 (pa_cons (pv 0) (pa_cons (pv 1) pa_nil))) (pa_cons (pe_cd D_quota_part (hr.mono (by decide)) pass0 (pa_cons (pv 0) (pa_cons (pv 1) pa_nil))) (pa_cons (pe_cd D_coverage_bound (hr.mono (by decide)) pass0 (pa_cons (pv 0) pa_nil)) pa_nil))))))))), ?_⟩), hm, FF.kp, hb⟩
  · obtain ⟨z, ⟨_, _, _, _, rfl, _⟩, _⟩ := h
    rfl
  · obtain ⟨z, ⟨a, l, p, ns, rfl, hI, rfl⟩, k⟩ := h
    have hst : (Kp430.step (some p) (.bound ns)).2 = if Kp430.validPrices ns then ⟨0, [Kp430.bound p ns, (Kp430.positionBounds p ns).sum, Kp430.quotaBounds p ns, (Kp430.coverageBound p : Int)]⟩ else Kp430.single (-22) := rfl
    rw [hst] at k
    refine q_when (et_not (et_B (ev_pf hI.lst hI.few (ev_var rfl)))) (fun hb H1 e1 => ?_) (fun hb H1 e1 => ?_)
    · rw [Bool.not_eq_true'] at hb
      rw [hb] at k
      exact retE ev_c e1 k
    · rw [Bool.not_eq_false'] at hb
      rw [hb] at k
      have hA := (hI.mono e1).prices hb
      obtain ⟨L, hp⟩ := hA.pg
      have pr : ∀ {F : Page → List Int → Int} H2, Ex H1 H2 → rPrc K CC CP F [.ref a, .ref l] H2 (.int (F p ns)) := fun H2 e2 => ⟨a, l, p, ns, hA.mono e2, rfl⟩
      exact s_retL (el_lst (ea_cons ev_c (ea_cons (ev_cd (ea_cons (ev_var rfl) (ea_cons (ev_var rfl) ea_nil)) pr) (ea_cons (ev_cd (ea_cons (ev_var rfl) (ea_cons (ev_var rfl) ea_nil)) pr) (ea_cons (ev_cd (ea_cons (ev_var rfl) (ea_cons (ev_var rfl) ea_nil)) pr)
        (ea_cons (ev_cd (ea_cons (ev_var rfl) ea_nil) fun H2 e2 => ⟨a, p, rfl, ⟨L, hp.mono e2⟩, hA.wf, rfl⟩) ea_nil))))) (by show 5 ≤ 100000; decide)) fun d H2 hd e2 h2 => k d H2 (fresh_back e1 hd) (e1.trans e2) h2
end
end Ps
end

section
set_option maxRecDepth 100000
set_option maxHeartbeats 2000000
namespace Ps
open PySem PySem.Spec PyProof.Rows L2 Evl
open Kp430 (Page Candidate Quota)
section
variable {P : Program} {w : World} {K : PySem.W.Frag} {mg : Str → Option Value} {base : Heap} {CC CP CS : Addr} {σ : L2.St} {H : Hp} {D : Ends} {a : Addr} {L : Lay} {p : Page} {tp tc tl te : TE}
theorem AskedI.six {H : Hp} {a l : Addr} {p : Page} {ns : List Int} (h : AskedI K CC CP H a l p ns) (h6 : ns.length = 6) : AskP K CC CP [.ref a, .ref l] H a l p ns := ⟨rfl, h.pg, h.wf, sq_of h.lst, h6⟩
def stepOf (size : Nat) : Nat → Int
  | 0 => (size : Int)
  | _ => -(size : Int)
def movedBy (size : Nat) (ns : List Int) (g j : Nat) : List Int := ns.set g (Kp430.price ns g + stepOf size j)
theorem tuneGroup_is (p : Page) (size : Nat) (ns : List Int) (g : Nat) : Kp430.tuneGroup p size ns g = if Kp430.bound p (movedBy size ns g 0) < Kp430.bound p ns then movedBy size ns g 0 else if Kp430.bound p (movedBy size ns g 1) < Kp430.bound p ns then movedBy size ns g 1 else ns := rfl
theorem tuneGroup_len (p : Page) (size : Nat) (ns : List Int) (g : Nat) : (Kp430.tuneGroup p size ns g).length = ns.length := by
  rw [tuneGroup_is]
  unfold movedBy
  split
  · rw [List.length_set]
  · split
    · rw [List.length_set]
    · rfl
def rTuned (K : PySem.W.Frag) (CC CP : Addr) : List V → Hp → List V → Prop := fun vs H xs => ∃ a l p ns g size, vs = [.ref a, .ref l, nV g, nV size] ∧ AskedI K CC CP H a l p ns ∧ ns.length = 6 ∧ g < 6 ∧ xs = (Kp430.tuneGroup p size ns g).map V.int
abbrev s_tuned_group : Stmt := topS 43
theorem sc_tuned_group : FnScope ["page", "prices", "group", "size", "present", "step", "moved"] ["page", "prices", "group", "size"] (defScope s_tuned_group) := ⟨rfl, rfl, rfl, by decide +kernel, rfl, by decide +kernel, by decide +kernel⟩
theorem ok_tuned_group (T : Txt K mg CC CP CS) (F : FunAt K mg "tuned_group" s_tuned_group ["page", "prices", "group", "size"]) (D_bound_of : DefAt P w K mg base 3 "bound_of" ["page", "prices"] (spV (rPrc K CC CP Kp430.bound))) :
    DefAt P w K mg base 4 "tuned_group" ["page", "prices", "group", "size"] (spK (rTuned K CC CP)) := by
  obtain ⟨f, fd, FF, hm, hb⟩ := F.ex
  refine ⟨f, fd, FF.ok sc_tuned_group (fun vs H Q E h => ?_) (fun cdv A outer s H vs Q E hr h => ⟨_, (pss_cons (ps_set (i := 4) sc_tuned_group.nd rfl (Or.inl rfl) (pe_cd D_bound_of (hr.mono (by decide)) pass0 (pa_cons (pv 0) (pa_cons (pv 1) pa_nil))))
      (pss_cons (ps_for PassesOwn.never rfl (wTup (K := K) (pe_tup (pa_cons (pv 3) (pa_cons (pe_un un_neg (pv 3)) pa_nil)))) (pg_name (i := 5) sc_tuned_group.nd rfl (Or.inl rfl))
        (pss_cons (ps_set (i := 6) sc_tuned_group.nd rfl (Or.inl rfl) (pe_callTy (listK (K := K)) (by rfl) T.list (by decide +kernel) (pa_cons (pv 1) pa_nil)))
      (pss_cons (ps_augS (pv 6) (pv 2) (getL (K := K)) (pv 5) ip_add set_list)
      (pss_one (ps_if (pt_cmpR op_lt (pe_cd D_bound_of (hr.mono (by decide)) pass0 (pa_cons (pv 0) (pa_cons (pv 6) pa_nil))) (pv 4) (nomark _)) (pss_one (ps_ret (pv 6))) pss_nil)))))
      (pss_one (ps_ret (pv 1))))), ?_⟩), hm, FF.kp, hb⟩
  · obtain ⟨z, ⟨_, _, _, _, _, _, rfl, _⟩, _⟩ := h
    rfl
  · obtain ⟨z, ⟨a, l, p, ns, g, size, rfl, hI, h6, hg, rfl⟩, k⟩ := h
    rw [tuneGroup_is] at k
    have hA := hI.six h6
    refine q_asg (ev_cd (ea_cons (ev_var rfl) (ea_cons (ev_var rfl) ea_nil)) fun H1 e1 => ⟨a, l, p, ns, hA.mono e1, rfl⟩) fun H1 e1 => ?_
    refine seq_of (s_forU (xs := [V.int (size : Int), .int (-(size : Int))]) (eu_tup (ea_cons (ev_var rfl) (ea_cons (ev_un (ev_var rfl) ru_neg) ea_nil)) (by show 2 ≤ 100000; decide)) fun t H2 ht e2 h2 => ⟨fun i σ' H' => ∃ v5 v6, σ' = [some (.ref a), some (.ref l), some (nV g), some (nV size), some (.int (Kp430.bound p ns)), v5, v6] ∧ Ex H2 H' ∧
      ∀ j, j < i → ¬ Kp430.bound p (movedBy size ns g j) < Kp430.bound p ns, ⟨none, none, rfl, Ex.refl _, fun j hj => absurd hj (Nat.not_lt_zero j)⟩, fun i σ' H' ⟨_, _, _, q, _⟩ => q, ?_, ?_⟩)
    · rintro i x σ' H' hx ⟨v5, v6, rfl, eH, hno⟩
      have hi : i < 2 := (List.getElem?_eq_some_iff.mp hx).1
      have hx2 : x = .int (stepOf size i) := by
        rcases i with _ | _ | i
        · exact (Option.some.inj hx).symm
        · exact (Option.some.inj hx).symm
        · omega
      subst hx2
      have E := (e1.trans e2).trans eH
      refine q_asgL (el_list (ev_var (by rfl)) (sq_of (E _ _ hI.lst))) fun d H3 hd e3 h3 => ?_
      refine seq_of (s_augL (m := Kp430.price ns g) (n := stepOf size i) (j := g) h3 (ev_var rfl) (ev_var rfl) (by rw [List.getElem?_map, price_at (by omega)]; rfl) (ev_var rfl) fun H4 e4 => ?_)
      have es : (ns.map V.int).set g (.int (Kp430.price ns g + stepOf size i)) = (movedBy size ns g i).map V.int := by
        unfold movedBy
        rw [List.map_set]
      rw [es]
      have e04 : Ex H' (upd H4 d (.lst ((movedBy size ns g i).map V.int))) := Ex.mut (e3.trans e4) hd
      have hA2 : AskP K CC CP [.ref a, .ref d] (upd H4 d (.lst ((movedBy size ns g i).map V.int))) a d p (movedBy size ns g i) := ⟨rfl, hI.pg.mono (E.trans e04), hI.wf, sq_of upd_same, by unfold movedBy; rw [List.length_set]; exact h6⟩
      refine s_when (et_test (ev_op (ev_cd (ea_cons (ev_var rfl) (ea_cons (ev_var rfl) ea_nil)) fun H5 e5 => ⟨a, d, p, _, hA2.mono e5, rfl⟩) (ev_var rfl) rv_I0)) (fun hb H5 e5 => ?_) (fun hb H5 e5 => ?_)
      · have hb : Kp430.bound p (movedBy size ns g i) < Kp430.bound p ns := of_decide_eq_true hb
        refine s_ret (ev_var rfl) fun H6 e6 => ?_
        refine k d H6 ((E.trans e04).trans (e5.trans e6)) ?_
        rw [(e5.trans e6) _ _ upd_same]
        rcases i with _ | _ | i
        · rw [if_pos hb]
        · rw [if_neg (hno 0 (by omega)), if_pos hb]
        · omega
      · have hb : ¬ Kp430.bound p (movedBy size ns g i) < Kp430.bound p ns := of_decide_eq_false hb
        refine ⟨_, _, rfl, (eH.trans e04).trans e5, fun j hj => ?_⟩
        by_cases q : j = i
        · rw [q]; exact hb
        · exact hno j (by omega)
    · rintro σ' H' ⟨v5, v6, rfl, eH, hno⟩
      rw [if_neg (hno 0 (by show 0 < 2; decide)), if_neg (hno 1 (by show 1 < 2; decide))] at k
      have E := (e1.trans e2).trans eH
      exact s_ret (ev_var rfl) fun H3 e3 => k l H3 (E.trans e3) ((E.trans e3) _ _ hI.lst)
/-! ### tune -/
def oneRound (p : Page) (size : Nat) (ns : List Int) : List Int := (List.range 6).foldl (Kp430.tuneGroup p size) ns
def manyRounds (p : Page) (size : Nat) : Nat → List Int → List Int
  | 0, ns => ns
  | n + 1, ns => oneRound p size (manyRounds p size n ns)
theorem rounds_in (p : Page) (size : Nat) : ∀ (n : Nat) (ns : List Int), manyRounds p size n (oneRound p size ns) = oneRound p size (manyRounds p size n ns)
  | 0, ns => rfl
  | n + 1, ns => congrArg (oneRound p size) (rounds_in p size n ns)
theorem tune_is (p : Page) (size : Nat) : ∀ (n : Nat) (ns : List Int), Kp430.tune p size n ns = manyRounds p size n ns
  | 0, ns => rfl
  | n + 1, ns => by
    show Kp430.tune p size n (oneRound p size ns) = _
    rw [tune_is p size n, rounds_in]
    rfl
theorem fold_len (p : Page) (size : Nat) : ∀ (l : List Nat) (ns : List Int), (l.foldl (Kp430.tuneGroup p size) ns).length = ns.length
  | [], ns => rfl
  | g :: l, ns => by rw [List.foldl_cons, fold_len p size l, tuneGroup_len]
theorem many_len (p : Page) (size : Nat) : ∀ (n : Nat) (ns : List Int), (manyRounds p size n ns).length = ns.length
  | 0, ns => rfl
  | n + 1, ns => by
    show (oneRound p size (manyRounds p size n ns)).length = _
    unfold oneRound
    rw [fold_len, many_len p size n]
def rTune (K : PySem.W.Frag) (CC CP : Addr) : List V → Hp → List V → Prop := fun vs H xs => ∃ a l p ns size rounds, vs = [.ref a, nV size, nV rounds, .ref l] ∧ AskedI K CC CP H a l p ns ∧ xs = aL (Kp430.step (some p) (.tune size rounds ns)).2
abbrev s_tune : Stmt := topS 44
theorem sc_tune : FnScope ["page", "size", "rounds", "prices", "tuned", "turn", "group"] ["page", "size", "rounds", "prices"] (defScope s_tune) := ⟨rfl, rfl, rfl, by decide +kernel, rfl, by decide +kernel, by decide +kernel⟩
theorem ok_tune (T : Txt K mg CC CP CS) (F : FunAt K mg "tune" s_tune ["page", "size", "rounds", "prices"]) (D_prices_fit : DefAt P w K mg base 1 "prices_fit" ["prices"] (spV (rPricesFit K))) (D_tuning_fits : DefAt P w K mg base 1 "tuning_fits" ["size", "rounds"] (spV rTuningFits))
    (D_bound_of : DefAt P w K mg base 3 "bound_of" ["page", "prices"] (spV (rPrc K CC CP Kp430.bound))) (D_tuned_group : DefAt P w K mg base 4 "tuned_group" ["page", "prices", "group", "size"] (spK (rTuned K CC CP))) :
    DefAt P w K mg base 5 "tune" ["page", "size", "rounds", "prices"] (spL (rTune K CC CP)) := by
  obtain ⟨f, fd, FF, hm, hb⟩ := F.ex
  refine ⟨f, fd, FF.ok sc_tune (fun vs H Q E h => ?_) (fun cdv A outer s H vs Q E hr h => ⟨_, (pss_cons (ps_if (PW.pt (pw_or (pt_not (pt_val (pe_cd D_tuning_fits (hr.mono (by decide)) pass0 (pa_cons (pv 1) (pa_cons (pv 2) pa_nil))))) (pw_or1 (pt_not (pt_val (pe_cd D_prices_fit (hr.mono (by decide)) pass0 (pa_cons (pv 3) pa_nil))))))) (pss_one (ps_ret (pe_lst (pa_cons (pe_gi T.OUTSIDE_LIMITS) pa_nil)))) pss_nil)
      (pss_cons (ps_set (i := 4) sc_tune.nd rfl (Or.inl rfl) (pv 3))
      (pss_cons (ps_for PassesOwn.never rfl (pi_range1 (by rfl) T.range (pa_cons (pv 2) pa_nil)) (pg_name (i := 5) sc_tune.nd rfl (Or.inl rfl))
        (pss_one (ps_for PassesOwn.never rfl (pi_range1 (by rfl) T.range (pa_cons (pe_gi T.GROUP_COUNT) pa_nil)) (pg_name (i := 6) sc_tune.nd rfl (Or.inl rfl))
        (pss_one (ps_set (i := 4) sc_tune.nd rfl (Or.inl rfl) (pe_cd D_tuned_group (hr.mono (by decide)) pass0 (pa_cons (pv 0) (pa_cons (pv 4) (pa_cons (pv 6) (pa_cons (pv 1) pa_nil))))))))))
      (pss_one (ps_ret (pe_op op_cat (pe_lst (pa_cons pe_int (pa_cons (pe_cd D_bound_of (hr.mono (by decide)) pass0 (pa_cons (pv 0) (pa_cons (pv 4) pa_nil))) pa_nil))) (pv 4))))))), ?_⟩), hm, FF.kp, hb⟩
  · obtain ⟨z, ⟨_, _, _, _, _, _, rfl, _⟩, _⟩ := h
    rfl
  · obtain ⟨z, ⟨a, l, p, ns, size, rounds, rfl, hI, rfl⟩, k⟩ := h
    have hst : (Kp430.step (some p) (.tune size rounds ns)).2 = if (Kp430.validPrices ns && decide (1 ≤ size) && decide (size ≤ 1000000) && decide (rounds ≤ 20)) = false then Kp430.single (-22) else ⟨0, Kp430.bound p (Kp430.tune p size rounds ns) :: Kp430.tune p size rounds ns⟩ := rfl
    rw [hst] at k
    refine q_when (b := !(decide (1 ≤ size) && decide (size ≤ 1000000) && decide (rounds ≤ 20)) || !Kp430.validPrices ns) (et_or (et_not (et_B (ev_cd (ea_cons (ev_var rfl) (ea_cons (ev_var rfl) ea_nil)) fun H1 e1 => ⟨size, rounds, rfl, rfl⟩))) fun _ => et_not (et_B (ev_pf hI.lst hI.few (ev_var rfl)))) (fun hb H1 e1 => ?_) (fun hb H1 e1 => ?_)
    · have : (Kp430.validPrices ns && decide (1 ≤ size) && decide (size ≤ 1000000) && decide (rounds ≤ 20)) = false := by
        revert hb
        cases Kp430.validPrices ns <;> cases decide (1 ≤ size) <;> cases decide (size ≤ 1000000) <;> cases decide (rounds ≤ 20) <;> decide
      rw [if_pos this] at k
      exact retE ev_c e1 k
    · have hall : (Kp430.validPrices ns && decide (1 ≤ size) && decide (size ≤ 1000000) && decide (rounds ≤ 20)) = true := by
        revert hb
        cases Kp430.validPrices ns <;> cases decide (1 ≤ size) <;> cases decide (size ≤ 1000000) <;> cases decide (rounds ≤ 20) <;> decide
      rw [if_neg (by rw [hall]; decide), tune_is] at k
      simp only [Bool.and_eq_true, decide_eq_true_eq] at hall
      have h6 := ((hI.mono e1).prices hall.1.1.1).six
      refine q_asg (ev_var rfl) fun H2 e2 => ?_
      have E2 := e1.trans e2
      refine q_forR1 (n := (rounds : Int)) (ea_cons (ev_var rfl) ea_nil) ⟨by omega, by omega⟩ (fun i σ' H' => ∃ t v5 v6, σ' = [some (.ref a), some (nV size), some (nV rounds), some (.ref l), some (.ref t), v5, v6] ∧ Ex H2 H' ∧ H' t = some (.lst ((manyRounds p size i ns).map V.int)))
        (fun H3 e3 => ⟨l, none, none, rfl, e3, (E2.trans e3) _ _ hI.lst⟩) ?_ ?_
      · rintro i σ' H' hi ⟨t, v5, v6, rfl, eH, ht⟩
        refine s_forR1 (n := 6) (ea_cons ev_c ea_nil) ⟨by decide, by decide⟩ (fun j σ2 H3 => ∃ t v5 v6, σ2 = [some (.ref a), some (nV size), some (nV rounds), some (.ref l), some (.ref t), v5, v6] ∧ Ex H2 H3 ∧ H3 t = some (.lst (((List.range j).foldl (Kp430.tuneGroup p size) (manyRounds p size i ns)).map V.int)))
          (fun H3 e3 => ⟨t, _, _, rfl, eH.trans e3, e3 _ _ ht⟩) ?_ ?_
        · rintro j σ2 H3 hj ⟨t, v5, v6, rfl, eH3, ht3⟩
          have hj6 : j < 6 := by omega
          have hlen : ((List.range j).foldl (Kp430.tuneGroup p size) (manyRounds p size i ns)).length = 6 := by rw [fold_len, many_len]; exact h6
          refine s_asgK (ek_cd (ea_cons (ev_var rfl) (ea_cons (ev_var rfl) (ea_cons (ev_var rfl) (ea_cons (ev_var rfl) ea_nil)))) fun H4 e4 => ⟨a, t, p, _, j, size, rfl, ⟨(hI.pg.mono (E2.trans eH3)).mono e4, hI.wf, e4 _ _ ht3, by omega⟩, hlen, hj6, rfl⟩) fun t2 H4 e4 h4 => ?_
          refine ⟨t2, _, _, rfl, eH3.trans e4, ?_⟩
          rw [h4, List.range_succ, List.foldl_append]
          rfl
        · rintro σ2 H3 ⟨t, v5, v6, rfl, eH3, ht3⟩
          exact ⟨t, _, _, rfl, eH3, ht3⟩
      · rintro σ' H' ⟨t, v5, v6, rfl, eH, ht⟩
        have hr : ((rounds : Int)).toNat = rounds := by omega
        rw [hr] at ht
        have hlen : (manyRounds p size rounds ns).length = 6 := by rw [many_len]; exact h6
        have E := E2.trans eH
        refine s_retL (EvL.is (el_cc (ek_new (el_lst (ea_cons ev_c (ea_cons (ev_cd (ea_cons (ev_var rfl) (ea_cons (ev_var rfl) ea_nil)) fun H4 e4 => ⟨a, t, p, _, ⟨rfl, (hI.pg.mono E).mono e4, hI.wf, sq_of (e4 _ _ ht), hlen⟩, rfl⟩) ea_nil)) (by show 2 ≤ 100000; decide))) (ek_of (ev_var (by rfl)) ht) (by rw [List.length_map, hlen]; show 2 + 6 ≤ 100000; decide)) ?_) fun d H4 hd e4 h4 => k d H4 (fresh_back E hd) (E.trans e4) h4
        rfl
end
end Ps
end

section
set_option maxRecDepth 100000
set_option maxHeartbeats 2000000
namespace Ps
open PySem PySem.Spec PyProof.Rows L2 Evl
open Kp430 (Page Candidate Quota)
section
variable {P : Program} {w : World} {K : PySem.W.Frag} {mg : Str → Option Value} {base : Heap} {CC CP CS : Addr} {σ : L2.St} {H : Hp} {D : Ends} {a : Addr} {L : Lay} {p : Page} {tp tc tl te ta : TE}
theorem s_extK {l : Addr} {xs zs : List V} (hl : H l = some (.lst xs)) (ha : Ev ta σ H (.ref l)) (h : EvK te σ H zs) (hz : xs.length + zs.length ≤ 100000) (k : ∀ H1, Ex H H1 → D.nx σ (upd H1 l (.lst (xs ++ zs)))) : tDrop (tBM K "list" rExtend ta (tCons te tNil)) D σ H :=
  ha H (Ex.refl H) _ fun H1 e1 => ⟨Or.inl ⟨rfl, xs, sq_of (e1 l _ hl)⟩, h H1 e1 _ fun b H2 e2 h2 => ⟨l, b, xs, zs, rfl, rfl, e2 l _ (e1 l _ hl), h2, sz_of hz, k H2 (e1.trans e2)⟩⟩
/-! ### reduced -/
def rReduced : List V → Hp → List V → Prop := fun vs H xs => ∃ m n : Nat, vs = [nV m, nV n] ∧ 0 < n ∧ n ≤ 100000 ∧ xs = [nV (m / Nat.gcd m n), nV (n / Nat.gcd m n)]
theorem fdiv_nat (m n : Nat) : (m : Int).fdiv (n : Int) = ((m / n : Nat) : Int) := by
  rw [Int.fdiv_eq_ediv_of_nonneg _ (Int.natCast_nonneg _)]
  simp
theorem fmod_nat (m n : Nat) : (m : Int).fmod (n : Int) = ((m % n : Nat) : Int) := by
  rw [Int.fmod_eq_emod_of_nonneg _ (Int.natCast_nonneg _)]
  simp
theorem gcd_small {m n : Nat} (h : 0 < n) : 0 < Nat.gcd m n ∧ Nat.gcd m n ≤ n := ⟨Nat.gcd_pos_of_pos_right m h, Nat.gcd_le_right m h⟩
abbrev s_reduced : Stmt := topS 36
theorem sc_reduced : FnScope ["part", "whole", "divisor", "rest", "remainder"] ["part", "whole"] (defScope s_reduced) := ⟨rfl, rfl, rfl, by decide +kernel, rfl, by decide +kernel, by decide +kernel⟩
theorem ok_reduced (T : Txt K mg CC CP CS) (F : FunAt K mg "reduced" s_reduced ["part", "whole"]) : DefAt P w K mg base 1 "reduced" ["part", "whole"] (spL rReduced) := by
  obtain ⟨f, fd, FF, hm, hb⟩ := F.ex
  refine ⟨f, fd, FF.ok sc_reduced (fun vs H Q E h => ?_) (fun cdv A outer s H vs Q E hr h => ⟨_, (pss_cons (ps_set (i := 2) sc_reduced.nd rfl (Or.inl rfl) (pv 1))
      (pss_cons (ps_set (i := 3) sc_reduced.nd rfl (Or.inl rfl) (pv 0))
      (pss_cons (ps_while PassesOwn.never (pt_cmpR op_gt (pv 3) pe_int (nomark _))
        (pss_cons (ps_set (i := 4) sc_reduced.nd rfl (Or.inl rfl) (pe_op op_modN (pv 2) (pv 3)))
      (pss_cons (ps_set (i := 2) sc_reduced.nd rfl (Or.inl rfl) (pv 3))
      (pss_one (ps_set (i := 3) sc_reduced.nd rfl (Or.inl rfl) (pv 4))))))
      (pss_one (ps_ret (pe_lst (pa_cons (pe_op op_fdivN (pv 0) (pv 2)) (pa_cons (pe_op op_fdivN (pv 1) (pv 2)) pa_nil)))))))), ?_⟩), hm, FF.kp, hb⟩
  · obtain ⟨z, ⟨_, _, rfl, _⟩, _⟩ := h
    rfl
  · obtain ⟨z, ⟨m, n, rfl, hn, hn5, rfl⟩, k⟩ := h
    obtain ⟨hg1, hg2⟩ := gcd_small (m := m) hn
    refine q_asg (ev_var rfl) fun H1 e1 => ?_
    refine q_asg (ev_var rfl) fun H2 e2 => ?_
    refine q_while (fun r σ' H' => ∃ d v4, σ' = [some (nV m), some (nV n), some (nV d), some (nV r), v4] ∧ Ex H H' ∧ Nat.gcd r d = Nat.gcd m n) m ⟨n, none, rfl, e1.trans e2, rfl⟩ ?_
    rintro r σ' H' ⟨d, v4, rfl, eH, hgr⟩
    refine ⟨decide (0 < r), et_test (ev_is (ev_op (ev_var rfl) ev_c rv_I0) ?_), fun hb H3 e3 => ?_, fun hb H3 e3 => ?_⟩
    · show V.bl (decide ((0 : Int) < (r : Int))) = V.bl (decide (0 < r))
      congr 1
      apply decide_eq_decide.mpr; omega
    · have hb : 0 < r := of_decide_eq_true hb
      refine ⟨fun σ2 H4 => ∃ v4, σ2 = [some (nV m), some (nV n), some (nV r), some (nV (d % r)), v4] ∧ Ex H H4, ?_, ?_⟩
      · rintro σ2 H4 ⟨v4, rfl, e4⟩
        refine ⟨d % r, Nat.mod_lt _ hb, r, v4, rfl, e4, ?_⟩
        rw [← hgr]
        exact (Nat.gcd_rec r d).symm
      · refine q_asg (v := nV (d % r)) (ev_is (ev_op (ev_var rfl) (ev_var rfl) (rv_I (by show (r : Int) ≠ 0; omega))) (by show V.int _ = V.int _; congr 1; exact fmod_nat d r)) fun H4 e4 => ?_
        refine q_asg (ev_var rfl) fun H5 e5 => ?_
        refine s_asg (ev_var rfl) fun H6 e6 => ?_
        exact ⟨_, rfl, (eH.trans e3).trans ((e4.trans e5).trans e6)⟩
    · have hb : r = 0 := by have := of_decide_eq_false hb; omega
      subst hb
      rw [Nat.gcd_zero_left] at hgr
      subst hgr
      have cd : CDivN ((m : Int)) ((Nat.gcd m n : Nat) : Int) ∧ CDivN ((n : Int)) ((Nat.gcd m n : Nat) : Int) := ⟨⟨by omega, by omega⟩, ⟨by omega, by omega⟩⟩
      refine s_retL (EvL.is (el_lst (ea_cons (ev_op (ev_var rfl) (ev_var rfl) (rv_I cd.1)) (ea_cons (ev_op (ev_var rfl) (ev_var rfl) (rv_I cd.2)) ea_nil)) (by show 2 ≤ 100000; decide)) ?_) fun q H4 hq e4 h4 => k q H4 (fresh_back (eH.trans e3) hq) ((eH.trans e3).trans e4) h4
      rw [fdiv_nat, fdiv_nat]
/-! ### exposure -/
def expo (p : Page) (ws s : List Nat) (g : Nat) : Nat := ((ws.zip s).map fun x => if (Kp430.at_ p x.2).group = g then x.1 else 0).sum
def exps (p : Page) (ws s : List Nat) : List V := (List.range 6).map fun g => nV (expo p ws s g)
theorem zip_take {α β : Type} : ∀ (l : List α) (m : List β) (i : Nat), (l.take i).zip (m.take i) = (l.zip m).take i
  | [], m, i => by simp
  | l, [], i => by simp
  | a :: l, b :: m, 0 => by simp
  | a :: l, b :: m, i + 1 => by simp [zip_take l m i]
theorem expo_step (p : Page) {ws s : List Nat} {i u c : Nat} (h1 : ws[i]? = some u) (h2 : s[i]? = some c) (g : Nat) : expo p (ws.take (i + 1)) (s.take (i + 1)) g = expo p (ws.take i) (s.take i) g + if (Kp430.at_ p c).group = g then u else 0 := by
  unfold expo
  have hz : (ws.zip s)[i]? = some (u, c) := by rw [List.getElem?_zip_eq_some]; exact ⟨h1, h2⟩
  rw [zip_take, zip_take, List.take_add_one, hz]
  simp
def pairsTo (p : Page) (s : List Nat) (i : Nat) : List Nat := ((List.range i).map fun g => [expo p p.weights s g / Nat.gcd (expo p p.weights s g) p.weights.sum, p.weights.sum / Nat.gcd (expo p p.weights s g) p.weights.sum]).flatten
theorem pairsTo_step (p : Page) (s : List Nat) (i : Nat) : pairsTo p s (i + 1) = pairsTo p s i ++ [expo p p.weights s i / Nat.gcd (expo p p.weights s i) p.weights.sum, p.weights.sum / Nat.gcd (expo p p.weights s i) p.weights.sum] := by
  unfold pairsTo
  rw [List.range_succ, List.map_append, List.flatten_append]
  simp
theorem pairsTo_len (p : Page) (s : List Nat) : ∀ i, (pairsTo p s i).length = 2 * i
  | 0 => rfl
  | i + 1 => by rw [pairsTo_step, List.length_append, pairsTo_len p s i]; show 2 * i + 2 = _; omega
theorem sum_bounds : ∀ (ws : List Nat), (∀ u ∈ ws, 1 ≤ u ∧ u ≤ 1000) → ws.length ≤ ws.sum ∧ ws.sum ≤ 1000 * ws.length
  | [], _ => ⟨Nat.le_refl _, Nat.le_refl _⟩
  | u :: ws, h => by
    have h1 := h u (List.mem_cons_self ..)
    have h2 := sum_bounds ws fun x hx => h x (List.mem_cons_of_mem _ hx)
    rw [List.sum_cons, List.length_cons]
    omega
theorem step_exposure (p : Page) (ns : List Nat) (h0 : 0 < p.weights.sum) : (Kp430.step (some p) (.exposure ns)).2 = if Kp430.isSlate p ns then ⟨6, (pairsTo p ns 6).map fun n : Nat => (n : Int)⟩ else Kp430.single (-22) := by
  have e : (Kp430.step (some p) (.exposure ns)).2 = if Kp430.isSlate p ns then Kp430.natResult Kp430.groupCount (((List.range Kp430.groupCount).map fun g =>
      let r := Kp430.reduce (Kp430.exposure p ns g : Nat) p.weights.sum
      [r.1.toNat, r.2]).flatten) else Kp430.single (-22) := rfl
  rw [e]
  have key : ∀ g, (let r := Kp430.reduce (Kp430.exposure p ns g : Nat) p.weights.sum
      [r.1.toNat, r.2]) = [expo p p.weights ns g / Nat.gcd (expo p p.weights ns g) p.weights.sum, p.weights.sum / Nat.gcd (expo p p.weights ns g) p.weights.sum] := by
    intro g
    have hx : Kp430.exposure p ns g = expo p p.weights ns g := rfl
    rw [hx]
    unfold Kp430.reduce
    have hg := (gcd_small (m := expo p p.weights ns g) h0).1
    have hn : ((expo p p.weights ns g : Nat) : Int).natAbs = expo p p.weights ns g := rfl
    simp only [hn]
    rw [if_neg (by omega)]
    have : (((expo p p.weights ns g : Nat) : Int) / ((Nat.gcd (expo p p.weights ns g) p.weights.sum : Nat) : Int)).toNat = expo p p.weights ns g / Nat.gcd (expo p p.weights ns g) p.weights.sum := by
      rw [← Int.natCast_ediv]; rfl
    simp only [this]
  simp only [key]
  rfl
def rSlateQ (K : PySem.W.Frag) (CC CP : Addr) (F : List Nat → Kp430.Call) : List V → Hp → List V → Prop := fun vs H xs => ∃ a l p ns, AskedL K CC CP vs H a l p ns ∧ xs = aL (Kp430.step (some p) (F ns)).2
abbrev s_exposure : Stmt := topS 90
theorem sc_exposure : FnScope ["page", "slate", "weights", "weight", "candidate", "told", "group"] ["page", "slate"] (defScope s_exposure) := ⟨rfl, rfl, rfl, by decide +kernel, rfl, by decide +kernel, by decide +kernel⟩
theorem ok_exposure (T : Txt K mg CC CP CS) (F : FunAt K mg "exposure" s_exposure ["page", "slate"]) (D_Page_is_slate : MethAt P w K mg base 3 CP "is_slate" ["self", "listed"] (spV (rIsS K CC CP))) (D_reduced : DefAt P w K mg base 1 "reduced" ["part", "whole"] (spL rReduced)) :
    DefAt P w K mg base 4 "exposure" ["page", "slate"] (spL (rSlateQ K CC CP .exposure)) := by
  obtain ⟨f, fd, FF, hm, hb⟩ := F.ex
  refine ⟨f, fd, FF.ok sc_exposure (fun vs H Q E h => ?_) (fun cdv A outer s H vs Q E hr h => ⟨_, (pss_cons (ps_if (pt_not (pt_val (pe_mt D_Page_is_slate T.cPage (hr.mono (by decide)) pass0 (pv 0) (pa_cons (pv 1) pa_nil)))) (pss_one (ps_ret (pe_lst (pa_cons (pe_gi T.OUTSIDE_LIMITS) pa_nil)))) pss_nil)
      (pss_cons (ps_setLc (i := 2) (own := [("group", 6)]) rfl sc_exposure.nd rfl rfl (sw_true rfl rfl rfl (by decide +kernel)) (pi_range1 (by rfl) T.range (pa_cons (pe_gi T.GROUP_COUNT) pa_nil)) (blkOk_by (own := [("group", 6)]) (N := ["page", "slate", "weights", "weight", "candidate", "told", "group"]) (sc := defScope s_exposure) (by decide +kernel)) (fun _ _ _ _ _ => pg_name (i := 6) sc_exposure.nd rfl (Or.inl rfl)) (fun _ _ _ _ _ => pts_nil) (fun _ _ _ _ _ => pe_int))
      (pss_cons (ps_for PassesOwn.never rfl (wZip (K := K) T.zip (pa_cons (fldK (K := K) (pv 0)) (pa_cons (pv 1) pa_nil))) (gTupK (K := K) (n := 2) (pgs_cons (pg_name (i := 3) sc_exposure.nd rfl (Or.inl rfl)) (pgs_cons (pg_name (i := 4) sc_exposure.nd rfl (Or.inl rfl)) pgs_nil)))
        (pss_one (ps_augS (pv 2) (fldK (K := K) (pe_ix (ixL (K := K)) (fldK (K := K) (pv 0)) (pv 4) (fun _ _ => rfl))) (getL (K := K)) (pv 3) ip_add set_list)))
      (pss_cons (ps_set (i := 5) sc_exposure.nd rfl (Or.inl rfl) (pe_lst (pa_cons (pe_gi T.GROUP_COUNT) pa_nil)))
      (pss_cons (ps_for PassesOwn.never rfl (wList (K := K) (pv 2)) (pg_name (i := 3) sc_exposure.nd rfl (Or.inl rfl))
        (pss_one (ps_expr (bmK (K := K) PySem.F.plainAttrs_list PySem.F.slot_list_extend PySem.F.type_list_extend mt_extend (pv 5) (pa_cons (pe_cd D_reduced (hr.mono (by decide)) pass0 (pa_cons (pv 3) (pa_cons (pe_callB (sumK (K := K)) (by rfl) T.sum (by decide +kernel) (pa_cons (fldK (K := K) (pv 0)) pa_nil)) pa_nil))) pa_nil)))))
      (pss_one (ps_ret (pv 5)))))))), ?_⟩), hm, FF.kp, hb⟩
  · obtain ⟨z, ⟨_, _, _, _, ⟨rfl, _⟩, _⟩, _⟩ := h
    rfl
  · obtain ⟨z, ⟨a, l, p, ns, ⟨rfl, ⟨L, hp⟩, wf, hS, h12, hl0⟩, rfl⟩, k⟩ := h
    obtain ⟨hs1, hs2⟩ := sum_bounds p.weights wf.wr
    have hw1 := wf.w1
    have hw5 := wf.w5
    rw [step_exposure p ns (by omega)] at k
    refine q_when (et_not (et_B (ev_isS T hp hS h12 (ev_var rfl) (ev_var rfl)))) (fun hb H1 e1 => ?_) (fun hb H1 e1 => ?_)
    · rw [Bool.not_eq_true'] at hb
      rw [hb] at k
      exact retE ev_c e1 k
    · rw [Bool.not_eq_false'] at hb
      rw [hb] at k
      obtain ⟨hl, hin, _⟩ := slate_in hb
      refine q_asgL (el_lcR (n := 6) (g := fun _ => nV 0) ev_c (by decide) (by intro _; rfl) fun i H2 e2 hi => ev_c) fun d H2 hd e2 h2 => ?_
      have E2 := e1.trans e2
      have hw0 : Ex H1 H2 := e2
      refine seq_of (s_forZ2 (l := p.weights) (m := ns) (r := nV) (s := nV) (pg_weights T (hp.mono E2) (ev_var rfl)) (ev_var (by rfl)) (sq_of (hp.mono E2).hw) (ex_l E2 hS) (fun i σ' H' => ∃ v3 v4, σ' = [some (.ref a), some (.ref l), some (.ref d), v3, v4, none, none] ∧ Ex H1 H' ∧ H' d = some (.lst (exps p (p.weights.take i) (ns.take i))))
        (fun H3 e3 => ⟨none, none, rfl, e2.trans e3, ?_⟩) (fun i σ' H' ⟨_, _, _, q, _⟩ => ⟨sq_of (q _ _ (hp.mono e1).hw), ex_l (e1.trans q) hS⟩) ?_ ?_)
      · rw [e3 _ _ h2]
        rfl
      · rintro i u c t σ' H' hu hc ⟨v3, v4, rfl, eH, hD⟩ ht
        have hcl := hin c (List.mem_of_getElem? hc)
        have hg := (at_ok wf hcl).gr
        have eT := eH.trans (Ex.new ht (o := .tup [nV u, nV c]))
        have hD2 : (upd H' t (.tup [nV u, nV c])) d = some (.lst (exps p (p.weights.take i) (ns.take i))) := by
          rw [upd_ne (fun z => by rw [z, ht] at hD; cases hD)]
          exact hD
        refine g_pair upd_same ?_
        refine s_augL (j := (Kp430.at_ p c).group) (m := expo p (p.weights.take i) (ns.take i) (Kp430.at_ p c).group) (n := u) hD2 (ev_var rfl) (pg_c_group T (hp.mono (e1.trans eT)) hcl (ev_var rfl) (ev_var rfl)) ?_ (ev_var rfl) fun H3 e3 => ⟨_, _, rfl, Ex.mut (eT.trans e3) hd, ?_⟩
        · unfold exps
          rw [List.getElem?_map, List.getElem?_range hg]; rfl
        · rw [upd_same]
          congr 2
          unfold exps
          refine List.ext_getElem (by simp) fun j h1 h2 => ?_
          rw [List.getElem_set]
          simp only [List.getElem_map, List.getElem_range, expo_step p hu hc]
          split
          · rename_i e
            rw [e]
            rfl
          · rfl
      · rintro σ' H' ⟨v3, v4, rfl, eH, hD⟩
        have em : min p.weights.length ns.length = p.weights.length := by omega
        rw [em, List.take_length, List.take_of_length_le (by omega)] at hD
        refine q_asgL (el_lst (ea_cons ev_c ea_nil) (by show 1 ≤ 100000; decide)) fun d2 H4 hd2 e4 h4 => ?_
        have nd : d ≠ d2 := fun z => by rw [z, hd2] at hD; cases hD
        refine q_forLn (xs := exps p p.weights ns) (ev_var (by rfl)) (sq_of (e4 _ _ hD)) (fun i σ2 H5 => ∃ v3 v4, σ2 = [some (.ref a), some (.ref l), some (.ref d), v3, v4, some (.ref d2), none] ∧ Ex H' H5 ∧ H5 d2 = some (.lst ((6 :: pairsTo p ns i).map nV)))
          (fun H5 e5 => ⟨_, _, rfl, e4.trans e5, e5 _ _ h4⟩) (fun i σ2 H5 _ ⟨_, _, _, q, _⟩ => sq_of (q _ _ hD)) ?_ ?_
        · rintro i x σ2 H5 hi ⟨v3, v4, rfl, e5, h5⟩
          have hi6 : i < 6 := by
            have := (List.getElem?_eq_some_iff.mp hi).1
            unfold exps at this
            rw [List.length_map, List.length_range] at this
            exact this
          have hx : x = nV (expo p p.weights ns i) := by
            unfold exps at hi
            rw [List.getElem?_map, List.getElem?_range hi6] at hi
            exact (Option.some.inj hi).symm
          subst hx
          have hpl := pairsTo_len p ns i
          have E5 := eH.trans e5
          refine s_extK h5 (ev_var rfl) (ek_new (el_cd (ea_cons (ev_var rfl) (ea_cons (ev_sumS (ns := p.weights.map fun n : Nat => (n : Int)) (EvS.is (es_of (pg_weights T (hp.mono (e1.trans E5)) (ev_var rfl)) (sq_of (hp.mono (e1.trans E5)).hw)) (ints_nats p.weights).symm)) ea_nil)) fun H6 e6 => ⟨expo p p.weights ns i, p.weights.sum, by rw [cast_sum], by omega, by omega, rfl⟩)) (by rw [List.length_map, List.length_cons]; show _ + 2 ≤ 100000; omega) fun H6 e6 => ?_
          refine ⟨_, _, rfl, Ex.mut (e5.trans e6) hd2, ?_⟩
          rw [upd_same, pairsTo_step]
          congr 2
          rw [List.map_cons, List.map_cons, List.map_append]
          rfl
        · rintro σ2 H5 ⟨v3, v4, rfl, e5, h5⟩
          have hlen : (exps p p.weights ns).length = 6 := by unfold exps; rw [List.length_map, List.length_range]
          rw [hlen] at h5
          refine s_ret (ev_var rfl) fun H6 e6 => k d2 H6 (fresh_back (e1.trans eH) hd2) ((e1.trans (eH.trans e5)).trans e6) ?_
          rw [e6 _ _ h5]
          show some (HO.lst (nV 6 :: (pairsTo p ns 6).map nV)) = some (HO.lst (V.int 6 :: ((pairsTo p ns 6).map fun n : Nat => (n : Int)).map V.int))
          rw [List.map_map]
          rfl
end
end Ps
end

section
set_option maxRecDepth 100000
set_option maxHeartbeats 2000000
namespace Ps
open PySem PySem.Spec PyProof.Rows L2 Evl
open Kp430 (Page Candidate Quota)
section
variable {P : Program} {w : World} {K : PySem.W.Frag} {mg : Str → Option Value} {base : Heap} {CC CP CS : Addr} {σ : L2.St} {H : Hp} {D : Ends} {a : Addr} {L : Lay} {p : Page} {tp tc tl te ta : TE}
/-! ### candidate_info, status -/
def rInfo (CC CP : Addr) : List V → Hp → List V → Prop := fun vs H xs => ∃ a p c, vs = [.ref a, nV c] ∧ PageAt CC CP H a p ∧ Wf p ∧ xs = aL (Kp430.step (some p) (.candidateInfo c)).2
abbrev s_candidate_info : Stmt := topS 91
theorem sc_candidate_info : FnScope ["page", "candidate", "asked"] ["page", "candidate"] (defScope s_candidate_info) := ⟨rfl, rfl, rfl, by decide +kernel, rfl, by decide +kernel, by decide +kernel⟩
theorem ok_candidate_info (T : Txt K mg CC CP CS) (F : FunAt K mg "candidate_info" s_candidate_info ["page", "candidate"]) (D_Page_has_candidate : MethAt P w K mg base 1 CP "has_candidate" ["self", "candidate"] (spV (rHasC CC CP))) :
    DefAt P w K mg base 2 "candidate_info" ["page", "candidate"] (spL (rInfo CC CP)) := by
  obtain ⟨f, fd, FF, hm, hb⟩ := F.ex
  refine ⟨f, fd, FF.ok sc_candidate_info (fun vs H Q E h => ?_) (fun cdv A outer s H vs Q E hr h => ⟨_, (pss_cons (ps_if (pt_not (pt_val (pe_mt D_Page_has_candidate T.cPage (hr.mono (by decide)) pass0 (pv 0) (pa_cons (pv 1) pa_nil)))) (pss_one (ps_ret (pe_lst (pa_cons (pe_gi T.NO_CANDIDATE) pa_nil)))) pss_nil)
      (pss_cons (ps_set (i := 2) sc_candidate_info.nd rfl (Or.inl rfl) (pe_ix (ixL (K := K)) (fldK (K := K) (pv 0)) (pv 1) (fun _ _ => rfl)))
      (pss_one (ps_ret (pe_op op_cat (pe_lst (pa_cons (fldK (K := K) (pv 2)) (pa_cons (fldK (K := K) (pv 2)) (pa_cons (fldK (K := K) (pv 2)) (pa_cons (fldK (K := K) (pv 2)) (pa_cons (pe_callB (lenK (K := K)) (by rfl) T.len (by decide +kernel) (pa_cons (fldK (K := K) (pv 2)) pa_nil)) pa_nil)))))) (fldK (K := K) (pv 2))))))), ?_⟩), hm, FF.kp, hb⟩
  · obtain ⟨z, ⟨_, _, _, rfl, _⟩, _⟩ := h
    rfl
  · obtain ⟨z, ⟨a, p, c, rfl, ⟨L, hp⟩, wf, rfl⟩, k⟩ := h
    have hst : (Kp430.step (some p) (.candidateInfo c)).2 = if Kp430.hasCandidate p c then Kp430.natResult (Kp430.at_ p c).score ([(Kp430.at_ p c).group, (Kp430.at_ p c).creator, (Kp430.at_ p c).age, (Kp430.at_ p c).topics.length] ++ (Kp430.at_ p c).topics) else Kp430.single (-2) := rfl
    rw [hst] at k
    refine q_when (et_not (et_B (ev_hasC T hp (ev_var rfl) (ev_var rfl)))) (fun hb H1 e1 => ?_) (fun hb H1 e1 => ?_)
    · rw [Bool.not_eq_true'] at hb
      rw [hb] at k
      exact retE ev_c e1 k
    · rw [Bool.not_eq_false'] at hb
      rw [hb] at k
      have hc : c < p.candidates.length := of_decide_eq_true hb
      have htl := topics_len wf hc
      obtain ⟨kc, hkc, hca⟩ := (hp.mono e1).cand hc
      refine q_asg (pg_cand T (hp.mono e1) hkc (ev_var rfl) (ev_var rfl)) fun H2 e2 => ?_
      have h2 := hca.mono e2
      refine s_retL (EvL.is (el_cc (ek_new (el_lst (ea_cons (cd_score T h2 (ev_var rfl)) (ea_cons (cd_group T h2 (ev_var rfl)) (ea_cons (cd_creator T h2 (ev_var rfl)) (ea_cons (cd_age T h2 (ev_var rfl)) (ea_cons (ev_lenS (es_of (cd_topics T h2 (ev_var rfl)) (sq_of h2.tps))) ea_nil))))) (by show 5 ≤ 100000; decide)))
        (ek_of (cd_topics T h2 (ev_var rfl)) h2.tps) (by rw [List.length_map]; show 5 + _ ≤ 100000; omega)) ?_) fun d H3 hd e3 h3 => k d H3 (fresh_back (e1.trans e2) hd) ((e1.trans e2).trans e3) h3
      rw [List.length_map]
      show _ = (((Kp430.at_ p c).score : Int) :: ([(Kp430.at_ p c).group, (Kp430.at_ p c).creator, (Kp430.at_ p c).age, (Kp430.at_ p c).topics.length] ++ (Kp430.at_ p c).topics).map fun n : Nat => (n : Int)).map V.int
      simp
def rStatus (CC CP : Addr) : List V → Hp → List V → Prop := fun vs H xs => ∃ a p, vs = [.ref a] ∧ PageAt CC CP H a p ∧ Wf p ∧ xs = aL (Kp430.step (some p) .status).2
theorem pins_count : ∀ l : List (Option Nat), (l.filter fun o => !decide (oV o = V.non)).length = (l.filterMap id).length
  | [] => rfl
  | none :: l => by
    have := pins_count l
    simpa using this
  | some c :: l => by
    have := pins_count l
    simpa using this
abbrev s_status : Stmt := topS 92
theorem sc_status : FnScope ["page", "pinned", "candidate"] ["page"] (defScope s_status) := ⟨rfl, rfl, rfl, by decide +kernel, rfl, by decide +kernel, by decide +kernel⟩
theorem ok_status (T : Txt K mg CC CP CS) (F : FunAt K mg "status" s_status ["page"]) : DefAt P w K mg base 1 "status" ["page"] (spL (rStatus CC CP)) := by
  obtain ⟨f, fd, FF, hm, hb⟩ := F.ex
  refine ⟨f, fd, FF.ok sc_status (fun vs H Q E h => ?_) (fun cdv A outer s H vs Q E hr h => ⟨_, (pss_cons (ps_set (i := 1) sc_status.nd rfl (Or.inl rfl) (pe_callB (lenK (K := K)) (by rfl) T.len (by decide +kernel) (pa_cons (pe_lc (own := [("candidate", 2)]) rfl sc_status.nd (wList (K := K) (fldK (K := K) (pv 0))) (blkOk_by (own := [("candidate", 2)]) (N := ["page", "pinned", "candidate"]) (sc := defScope s_status) (by decide +kernel)) (fun _ _ _ _ _ => pg_name (i := 2) sc_status.nd rfl (Or.inl rfl)) (fun _ _ _ _ _ => pts_one (pt_cmpR op_notN (pv 2) pe_non (nomark _))) (fun _ _ _ _ _ => (pv 2))) pa_nil)))
      (pss_one (ps_ret (pe_lst (pa_cons (pe_callB (lenK (K := K)) (by rfl) T.len (by decide +kernel) (pa_cons (fldK (K := K) (pv 0)) pa_nil)) (pa_cons (pe_callB (lenK (K := K)) (by rfl) T.len (by decide +kernel) (pa_cons (fldK (K := K) (pv 0)) pa_nil)) (pa_cons (pe_callB (lenK (K := K)) (by rfl) T.len (by decide +kernel) (pa_cons (fldK (K := K) (pv 0)) pa_nil)) (pa_cons (pv 1) (pa_cons (fldK (K := K) (pv 0)) pa_nil))))))))), ?_⟩), hm, FF.kp, hb⟩
  · obtain ⟨z, ⟨_, _, rfl, _⟩, _⟩ := h
    rfl
  · obtain ⟨z, ⟨a, p, rfl, ⟨L, hp⟩, wf, rfl⟩, k⟩ := h
    have hst : (Kp430.step (some p) .status).2 = Kp430.natResult (Kp430.positions p) [p.candidates.length, p.forbidden.length, (p.pins.filterMap id).length, p.diversity] := rfl
    rw [hst] at k
    have hpn := wf.pn
    have hw5 := wf.w5
    refine q_asg (ev_lenS (es_new (el_lcS (l := p.pins) (r := oV) (d := fun o => !decide (oV o = V.non)) (g := oV) (es_of (pg_pins T hp (ev_var rfl)) (sq_of hp.hp)) (by omega) (by intro _; rfl) (fun o H1 e1 _ => et_test (ev_op (ev_var rfl) ev_c rv_notN)) fun o H1 e1 _ _ => ev_var rfl))) fun H1 e1 => ?_
    refine s_retL (el_lst (ea_cons (pg_lenW T (hp.mono e1) (ev_var rfl)) (ea_cons (pg_lenC T (hp.mono e1) (ev_var rfl)) (ea_cons (ev_is (ev_lenS (es_of (pg_forbidden T (hp.mono e1) (ev_var rfl)) (sq_of (hp.mono e1).hf))) (by rw [List.length_map, hp.hfl])) (ea_cons (ev_var rfl) (ea_cons (pg_diversity T (hp.mono e1) (ev_var rfl)) ea_nil))))) (by show 5 ≤ 100000; decide)) fun d H2 hd e2 h2 => k d H2 (fresh_back e1 hd) (e1.trans e2) ?_
    rw [h2, List.length_map, pins_count]
    rfl
/-! ### is_feasible, members_fit -/
def rFeas (K : PySem.W.Frag) (CC CP : Addr) : List V → Hp → V → Prop := fun vs H z => ∃ a l p ns, Asked K CC CP vs H a l p ns ∧ ns.length = p.weights.length ∧ z = .bl (Kp430.violation p ns).isNone
theorem vL_viol {p : Page} {ns : List Nat} (h : ns.length = p.weights.length) : (vL (Kp430.violation p ns)).isEmpty = (Kp430.violation p ns).isNone := by
  cases hv : Kp430.violation p ns with
  | none => rfl
  | some v =>
    have := full_violation h hv
    cases v with
    | nil => exact absurd rfl this
    | cons x r => rfl
abbrev s_is_feasible : Stmt := topS 59
theorem sc_is_feasible : FnScope ["page", "slate"] ["page", "slate"] (defScope s_is_feasible) := ⟨rfl, rfl, rfl, by decide +kernel, rfl, by decide +kernel, by decide +kernel⟩
theorem ok_is_feasible (T : Txt K mg CC CP CS) (F : FunAt K mg "is_feasible" s_is_feasible ["page", "slate"]) (D_first_violation : DefAt P w K mg base 3 "first_violation" ["page", "slate"] (spL (rFirst K CC CP))) :
    DefAt P w K mg base 4 "is_feasible" ["page", "slate"] (spV (rFeas K CC CP)) := by
  obtain ⟨f, fd, FF, hm, hb⟩ := F.ex
  refine ⟨f, fd, FF.ok sc_is_feasible (fun vs H Q E h => ?_) (fun cdv A outer s H vs Q E hr h => ⟨_, (pss_one (ps_ret (notTK (K := K) (pe_cd D_first_violation (hr.mono (by decide)) pass0 (pa_cons (pv 0) (pa_cons (pv 1) pa_nil)))))), ?_⟩), hm, FF.kp, hb⟩
  · obtain ⟨z, ⟨_, _, _, _, ⟨rfl, _⟩, _⟩, _⟩ := h
    rfl
  · obtain ⟨z, ⟨a, l, p, ns, hA, hl, rfl⟩, k⟩ := h
    obtain rfl := hA.vs
    exact s_ret (ev_is (ev_notL (es_new (el_cd (ea_cons (ev_var rfl) (ea_cons (ev_var rfl) ea_nil)) fun H1 e1 => ⟨a, l, p, ns, hA.mono e1, hl, rfl⟩))) (congrArg V.bl (vL_viol hl))) fun H1 e1 => k H1 e1
def memChks : List (Str × Chk) := [("upper_quota_violation", Kp430.manyViolation), ("lower_quota_violation", Kp430.fewViolation), ("limit_violation", Kp430.creatorViolation), ("forbidden_violation", Kp430.pairViolation), ("freshness_violation", Kp430.freshViolation)]
theorem full_mem : ∀ q ∈ memChks, Full q.2 := fun q hq => full_slate q (by
  simp only [memChks, List.mem_cons, List.not_mem_nil, or_false] at hq
  simp only [slateChks, List.mem_cons, List.not_mem_nil, or_false]
  rcases hq with rfl | rfl | rfl | rfl | rfl <;> simp)
theorem fits_is (p : Page) (s : List Nat) : fits p s = ((List.range 5).find? fun i => (chkAt memChks i p s).isSome).isNone := by
  unfold fits
  rw [show List.range 5 = [0, 1, 2, 3, 4] from rfl]
  simp only [List.find?_cons, List.find?_nil]
  show ((Kp430.manyViolation p s).isNone && (Kp430.fewViolation p s).isNone && (Kp430.creatorViolation p s).isNone && (Kp430.pairViolation p s).isNone && (Kp430.freshViolation p s).isNone) =
    (match (Kp430.manyViolation p s).isSome with | true => some 0 | false => match (Kp430.fewViolation p s).isSome with | true => some 1 | false => match (Kp430.creatorViolation p s).isSome with | true => some 2 | false => match (Kp430.pairViolation p s).isSome with | true => some 3 | false => match (Kp430.freshViolation p s).isSome with | true => some 4 | false => (none : Option Nat)).isNone
  cases Kp430.manyViolation p s <;> cases Kp430.fewViolation p s <;> cases Kp430.creatorViolation p s <;> cases Kp430.pairViolation p s <;> cases Kp430.freshViolation p s <;> rfl
def rFits (K : PySem.W.Frag) (CC CP : Addr) : List V → Hp → V → Prop := fun vs H z => ∃ a l p ns, Asked K CC CP vs H a l p ns ∧ z = .bl (fits p ns)
abbrev s_members_fit : Stmt := topS 60
theorem sc_members_fit : FnScope ["page", "listed", "check"] ["page", "listed"] (defScope s_members_fit) := ⟨rfl, rfl, rfl, by decide +kernel, rfl, by decide +kernel, by decide +kernel⟩
theorem ok_members_fit (T : Txt K mg CC CP CS) (TT : TupAt K mg "MEMBER_CHECKS" (memChks.map (·.1))) (F : FunAt K mg "members_fit" s_members_fit ["page", "listed"]) (Dc : ∀ q ∈ memChks, DefAt P w K mg base 2 q.1 ["page", "listed"] (spL (rChk K CC CP q.2))) :
    DefAt P w K mg base 3 "members_fit" ["page", "listed"] (spV (rFits K CC CP)) := by
  obtain ⟨f, fd, FF, hm, hb⟩ := F.ex
  obtain ⟨r, fs, hr0, hsq, hfl, hfm⟩ := TT.ex
  have A_check : ∀ f sp, ChkS K CC CP mg memChks f sp → Held P w K mg base 2 f sp := chk_held Dc
  refine ⟨f, fd, FF.ok sc_members_fit (fun vs H Q E h => ?_) (fun cdv A outer s H vs Q E hr h => ⟨_, (pss_cons (ps_for PassesOwn.never rfl (wTup (K := K) (pe_gr hr0)) (pg_name (i := 2) sc_members_fit.nd rfl (Or.inl rfl))
        (pss_one (ps_if (truK (K := K) (pe_callR (i := 2) A_check (hr.mono (by decide)) (pa_cons (pv 0) (pa_cons (pv 1) pa_nil)))) (pss_one (ps_ret pe_bl)) pss_nil)))
      (pss_one (ps_ret pe_bl))), ?_⟩), hm, FF.kp, hb⟩
  · obtain ⟨z, ⟨_, _, _, _, ⟨rfl, _⟩, _⟩, _⟩ := h
    rfl
  · obtain ⟨z, ⟨a, l, p, ns, hA, rfl⟩, k⟩ := h
    have hA' := hA
    obtain ⟨rfl, ⟨L, hp⟩, wf, hS, hin, hfit⟩ := hA'
    rw [fits_is] at k
    have hl5 : (fs.map V.ref).length = 5 := by rw [List.length_map, hfl]; rfl
    refine seq_of (s_findT (fun σ => ∃ v2, σ = [some (.ref a), some (.ref l), v2]) (test := fun i => (chkAt memChks i p ns).isSome) ev_c hsq ⟨none, rfl⟩ ?_ ?_)
    · rintro i x σ' H' hx hf ⟨v2, rfl⟩ e2 N hN
      obtain ⟨g, hg, rfl⟩ := getE_map hx
      have hi : i < memChks.length := by
        have := (List.getElem?_eq_some_iff.mp hg).1
        rw [hfl, List.length_map] at this
        exact this
      obtain ⟨y, hy, hmem⟩ := chk_mem hi
      have hmg := hfm i g y hg (by rw [List.getElem?_map, hy]; rfl)
      refine s_when (et_tru (es_new (el_callR rfl ⟨_, hmem, hmg, rfl⟩ (ea_cons (ev_var rfl) (ea_cons (ev_var rfl) ea_nil)) fun H1 e1 => ⟨a, l, p, ns, hA.mono (e2.trans e1), rfl⟩))) (fun hb H3 e4 => ?_) (fun hb H3 e4 => ?_)
      · rw [vL_empty (full_mem _ hmem)] at hb
        have ht : (chkAt memChks i p ns).isSome = true := by rw [← Option.not_isNone]; exact hb
        have h2 := hf ht
        rw [hl5] at h2
        rw [h2] at k
        exact s_ret ev_c fun H5 e5 => k H5 ((e2.trans e4).trans e5)
      · rw [vL_empty (full_mem _ hmem)] at hb
        refine hN ?_ _ _ ⟨_, rfl⟩ (e2.trans e4)
        show (chkAt memChks i p ns).isSome = false
        rw [← Option.not_isNone]; exact hb
    · rintro hno σ' H' ⟨v2, rfl⟩ e
      rw [hl5] at hno
      rw [hno] at k
      exact k H' e
end
end Ps
end

section
set_option maxRecDepth 100000
set_option maxHeartbeats 2000000
namespace Ps
open Kp430
/-! A number that has one bit for each member; what hangs on the members alone. -/
def bitsOf (s : Slate) : Nat := s.foldl (fun m c => m ||| 2 ^ c) 0
theorem bits_app (s : Slate) (c : Nat) : bitsOf (s ++ [c]) = bitsOf s ||| 2 ^ c := by
  unfold bitsOf
  rw [List.foldl_append]; rfl
theorem bits_test : ∀ (s : Slate) (m i : Nat), (s.foldl (fun m c => m ||| 2 ^ c) m).testBit i = (m.testBit i || decide (i ∈ s))
  | [], m, i => by simp
  | c :: s, m, i => by
    rw [List.foldl_cons, bits_test s]
    rw [Nat.testBit_or, Nat.testBit_two_pow]
    by_cases h : c = i
    · subst h; simp
    · have : ¬ i = c := fun e => h e.symm
      simp [h, this]
theorem bits_mem {s : Slate} {i : Nat} : (bitsOf s).testBit i = decide (i ∈ s) := by
  unfold bitsOf
  rw [bits_test]
  simp
theorem bits_perm {s t : Slate} (hs : s.Nodup) (ht : t.Nodup) (h : bitsOf s = bitsOf t) : s.Perm t := by
  refine (List.perm_ext_iff_of_nodup hs ht).mpr fun i => ?_
  have h1 := bits_mem (s := s) (i := i)
  rw [h, bits_mem] at h1
  have := decide_eq_decide.mp h1
  exact this.symm
theorem covered_perm {p : Page} {s t : Slate} (h : s.Perm t) : covered p s = covered p t := by
  unfold covered
  refine List.filter_congr fun x _ => ?_
  rw [Bool.eq_iff_iff, List.any_eq_true, List.any_eq_true]
  exact ⟨fun ⟨c, hc, q⟩ => ⟨c, h.mem_iff.mp hc, q⟩, fun ⟨c, hc, q⟩ => ⟨c, h.mem_iff.mpr hc, q⟩⟩
theorem group_perm {p : Page} {s t : Slate} (h : s.Perm t) (g : Nat) : countGroup p s g = countGroup p t g := h.countP_eq _
theorem many_perm {p : Page} {s t : Slate} (h : s.Perm t) : manyViolation p s = manyViolation p t := by
  unfold manyViolation
  simp only [group_perm h]
theorem few_perm {p : Page} {s t : Slate} (h : s.Perm t) : fewViolation p s = fewViolation p t := by
  unfold fewViolation
  simp only [group_perm h]
theorem creator_perm {p : Page} {s t : Slate} (h : s.Perm t) : (creatorViolation p s).isNone = (creatorViolation p t).isNone := by
  unfold creatorViolation
  rw [Bool.eq_iff_iff, none_find, none_find]
  have e : ∀ c, (s.countP fun d => (at_ p d).creator == (at_ p c).creator) = t.countP fun d => (at_ p d).creator == (at_ p c).creator := fun c => h.countP_eq _
  constructor
  · intro q c hc
    have := q c (h.mem_iff.mpr hc)
    rw [e c] at this
    exact this
  · intro q c hc
    have := q c (h.mem_iff.mp hc)
    rw [← e c] at this
    exact this
theorem contains_perm {s t : Slate} (h : s.Perm t) (x : Nat) : s.contains x = t.contains x := by
  rw [Bool.eq_iff_iff, List.contains_iff_mem, List.contains_iff_mem]
  exact h.mem_iff
theorem pair_perm {p : Page} {s t : Slate} (h : s.Perm t) : pairViolation p s = pairViolation p t := by
  unfold pairViolation
  simp only [contains_perm h]
theorem fresh_perm {p : Page} {s t : Slate} (h : s.Perm t) : freshViolation p s = freshViolation p t := by
  unfold freshViolation
  have e : (s.filter (isFresh p)).length = (t.filter (isFresh p)).length := (h.filter _).length_eq
  rw [e]
theorem fits_perm {p : Page} {s t : Slate} (h : s.Perm t) : fits p s = fits p t := by
  unfold fits
  rw [many_perm h, few_perm h, creator_perm h, pair_perm h, fresh_perm h]
/-- what coverage adds, where the members fit -/
def partOf (p : Page) (s : Slate) : Option Nat := if fits p s = true then some (p.diversity * (covered p s).length) else none
theorem part_perm {p : Page} {s t : Slate} (h : s.Perm t) : partOf p s = partOf p t := by
  unfold partOf
  rw [fits_perm h, covered_perm h]
theorem part_bits {p : Page} {s t : Slate} (hs : s.Nodup) (ht : t.Nodup) (h : bitsOf s = bitsOf t) : partOf p s = partOf p t := part_perm (bits_perm hs ht h)
theorem rel_app {p : Page} {s : Slate} {c : Nat} (h : s.length < p.weights.length) : relevance p (s ++ [c]) = relevance p s + p.weights.getD s.length 0 * (at_ p c).score := by
  unfold relevance
  have e : p.weights.zip (s ++ [c]) = p.weights.zip s ++ [(p.weights.getD s.length 0, c)] := by
    have key : ∀ (ws s : List Nat), s.length < ws.length → ws.zip (s ++ [c]) = ws.zip s ++ [(ws.getD s.length 0, c)] := by
      intro ws
      induction ws with
      | nil => intro s h; cases h
      | cons w ws ih =>
        intro s h
        cases s with
        | nil => simp
        | cons a s =>
          rw [List.cons_append, List.zip_cons_cons, ih s (by simpa using h), List.zip_cons_cons]
          simp
    exact key _ _ h
  rw [e, List.map_append, List.sum_append]
  simp
theorem score_at {p : Page} (w : Wf p) (c : Nat) : (at_ p c).score ≤ 10000 := by
  by_cases h : c < p.candidates.length
  · exact (at_ok w h).sc
  · unfold at_
    rw [List.getD_eq_getElem?_getD, List.getElem?_eq_none (by omega)]
    exact Nat.zero_le _
end Ps
end

section
set_option maxRecDepth 100000
set_option maxHeartbeats 2000000
namespace Ps
open PySem PySem.Spec PyProof.Rows L2 Evl
open Kp430 (Page Candidate Quota)
/-! The complete search. -/
/-- objects at ts, one for each of xs -/
def Each {α : Type} (R : Hp → Addr → α → Prop) (H : Hp) (ts : List Addr) (xs : List α) : Prop := ts.length = xs.length ∧ ∀ (i : Nat) (t : Addr) (x : α), ts[i]? = some t → xs[i]? = some x → R H t x
theorem Each.nil {α : Type} {R : Hp → Addr → α → Prop} {H : Hp} : Each R H [] [] := ⟨rfl, fun i t x h => by simp at h⟩
theorem Each.imp {α : Type} {R S : Hp → Addr → α → Prop} {H H' : Hp} {ts : List Addr} {xs : List α} (h : Each R H ts xs) (f : ∀ t x, t ∈ ts → x ∈ xs → R H t x → S H' t x) : Each S H' ts xs := ⟨h.1, fun i t x h1 h2 => f t x (List.mem_of_getElem? h1) (List.mem_of_getElem? h2) (h.2 i t x h1 h2)⟩
theorem Each.snoc {α : Type} {R : Hp → Addr → α → Prop} {H : Hp} {ts : List Addr} {xs : List α} {t : Addr} {x : α} (h : Each R H ts xs) (hr : R H t x) : Each R H (ts ++ [t]) (xs ++ [x]) := by
  refine ⟨by rw [List.length_append, List.length_append, h.1]; rfl, fun i u y h1 h2 => ?_⟩
  by_cases hi : i < ts.length
  · rw [List.getElem?_append_left hi] at h1
    rw [List.getElem?_append_left (by rw [← h.1]; exact hi)] at h2
    exact h.2 i u y h1 h2
  · rw [List.getElem?_append_right (by omega)] at h1
    rw [List.getElem?_append_right (by rw [← h.1]; omega), ← h.1] at h2
    have e : i - ts.length = 0 := by
      have := (List.getElem?_eq_some_iff.mp h1).1
      simp at this
      omega
    rw [e] at h1 h2
    cases h1
    cases h2
    exact hr
theorem Each.at_ {α : Type} {R : Hp → Addr → α → Prop} {H : Hp} {ts : List Addr} {xs : List α} (h : Each R H ts xs) {i : Nat} {t : Addr} (hi : ts[i]? = some t) : ∃ x, xs[i]? = some x ∧ R H t x := by
  have h1 := (List.getElem?_eq_some_iff.mp hi).1
  have h2 : i < xs.length := by rw [← h.1]; exact h1
  exact ⟨xs[i], List.getElem?_eq_getElem h2, h.2 i t _ hi (List.getElem?_eq_getElem h2)⟩
/-- a beginning with what is reckoned of it -/
def BegT (p : Page) (H0 : Hp) (H : Hp) (t : Addr) (s : List Nat) : Prop := ∃ l, H0 l = none ∧ H t = some (.tup [.ref l, nV (Kp430.relevance p s), nV (bitsOf s)]) ∧ H l = some (.lst (s.map nV))
theorem BegT.mono {p : Page} {H0 H H' : Hp} {t : Addr} {s : List Nat} (h : BegT p H0 H t s) (e : Ex H H') : BegT p H0 H' t s := by
  obtain ⟨l, h0, h1, h2⟩ := h
  exact ⟨l, h0, e _ _ h1, e _ _ h2⟩
section
variable {P : Program} {w : World} {K : PySem.W.Frag} {mg : Str → Option Value} {base : Heap} {CC CP CS : Addr} {σ : L2.St} {H : Hp} {D : Ends} {a : Addr} {L : Lay} {p : Page} {tp tc tl te ta tb tx : TE}
/-- l.append((a list, x, y)) -/
theorem s_appT3 {lo : Addr} {xs ys : List V} {x y : V} (hl : H lo = some (.lst xs)) (ha : Ev ta σ H (.ref lo)) (h : EvL te σ H ys) (h1 : ∀ H1, Ex H H1 → Ev tb σ H1 x) (h2 : ∀ H1, Ex H H1 → Ev tx σ H1 y) (hz : xs.length < 100000)
    (k : ∀ l t H1, H l = none → l ≠ lo → t ≠ lo → Ex H H1 → H1 l = some (.lst ys) → H1 t = some (.tup [.ref l, x, y]) → D.nx σ (upd H1 lo (.lst (xs ++ [.ref t])))) :
    tDrop (tBM K "list" rAppend ta (tCons (tTup (tCons te (tCons tb (tCons tx tNil)))) tNil)) D σ H :=
  ha H (Ex.refl H) _ fun H1 e1 => ⟨Or.inl ⟨rfl, xs, sq_of (e1 lo _ hl)⟩, h H1 e1 _ fun l H2 hl2 e2 h2l => h1 H2 (e1.trans e2) H2 (Ex.refl _) _ fun H3 e3 => h2 H3 ((e1.trans e2).trans e3) H3 (Ex.refl _) _ fun H4 e4 => ⟨by show 3 ≤ sizeLine; exact sz_of (by decide), fun t ht => by
    have E4 := ((e1.trans e2).trans e3).trans e4
    have hlo := E4 _ _ hl
    have nl : l ≠ lo := fun z => by rw [z, e1 _ _ hl] at hl2; cases hl2
    have nt : t ≠ lo := fun z => by rw [z, hlo] at ht; cases ht
    have eT : Ex H4 (upd H4 t (.tup [.ref l, x, y])) := Ex.new ht
    exact ⟨lo, xs, _, rfl, rfl, eT _ _ hlo, sz_lt hz, k l t _ (fresh_back e1 hl2) nl nt (E4.trans eT) (eT _ _ ((e3.trans e4) _ _ h2l)) upd_same⟩⟩⟩
/-! ### choices_at -/
theorem choice_lt {p : Page} (wf : Wf p) {k c : Nat} (h : c ∈ choiceAt p k) : c < p.candidates.length := by
  unfold choiceAt at h
  cases e : Kp430.pinAt p k with
  | none => rw [e] at h; exact List.mem_range.mp h
  | some d =>
    rw [e] at h
    have e2 : c = d := List.mem_singleton.mp h
    refine wf.pc c ?_
    unfold Kp430.pinAt at e
    rw [List.getD_eq_getElem?_getD] at e
    cases q : p.pins[k]? with
    | none => rw [q] at e; cases e
    | some o =>
      rw [q] at e
      have : o = some d := e
      rw [e2, ← this]
      exact List.mem_of_getElem? q
theorem choice_len {p : Page} (wf : Wf p) (k : Nat) : (choiceAt p k).length ≤ 9 := by
  unfold choiceAt
  split
  · rw [List.length_range]; exact wf.cn
  · show 1 ≤ 9; decide
def rChoice (CC CP : Addr) : List V → Hp → List V → Prop := fun vs H xs => ∃ a p k, vs = [.ref a, nV k] ∧ PageAt CC CP H a p ∧ Wf p ∧ k < p.weights.length ∧ xs = (choiceAt p k).map nV
abbrev s_choices_at : Stmt := topS 74
theorem sc_choices_at : FnScope ["page", "position", "pinned"] ["page", "position"] (defScope s_choices_at) := ⟨rfl, rfl, rfl, by decide +kernel, rfl, by decide +kernel, by decide +kernel⟩
theorem ok_choices_at (T : Txt K mg CC CP CS) (F : FunAt K mg "choices_at" s_choices_at ["page", "position"]) : DefAt P w K mg base 1 "choices_at" ["page", "position"] (spL (rChoice CC CP)) := by
  obtain ⟨f, fd, FF, hm, hb⟩ := F.ex
  refine ⟨f, fd, FF.ok sc_choices_at (fun vs H Q E h => ?_) (fun cdv A outer s H vs Q E hr h => ⟨_, (pss_cons (ps_set (i := 2) sc_choices_at.nd rfl (Or.inl rfl) (pe_ix (ixL (K := K)) (fldK (K := K) (pv 0)) (pv 1) (fun _ _ => rfl)))
      (pss_cons (ps_if (pt_cmpR op_isN (pv 2) pe_non (nomark _)) (pss_one (ps_ret (pe_listRg (by rfl) (by rfl) T.list (prg_1 (by rfl) T.range (pe_callB (lenK (K := K)) (by rfl) T.len (by decide +kernel) (pa_cons (fldK (K := K) (pv 0)) pa_nil)))))) pss_nil)
      (pss_one (ps_ret (pe_lst (pa_cons (pv 2) pa_nil)))))), ?_⟩), hm, FF.kp, hb⟩
  · obtain ⟨z, ⟨_, _, _, rfl, _⟩, _⟩ := h
    rfl
  · obtain ⟨z, ⟨a, p, k0, rfl, ⟨L, hp⟩, wf, hk0, rfl⟩, k⟩ := h
    refine q_asg (pg_pin T hp wf hk0 (ev_var rfl) (ev_var rfl)) fun H1 e1 => ?_
    cases hpin : Kp430.pinAt p k0 with
    | none =>
      have hch : choiceAt p k0 = List.range p.candidates.length := by unfold choiceAt; rw [hpin]
      rw [hch] at k
      refine q_when (et_test (ev_op (ev_var (by rfl)) ev_c rv_isN)) (fun hb H2 e2 => ?_) (fun hb => absurd hb (by show ¬ decide (V.non = V.non) = false; decide))
      have hcn := wf.cn
      exact s_retL (el_range (pg_lenC T (hp.mono (e1.trans e2)) (ev_var rfl)) (by omega)) fun d H3 hd e3 h3 => k d H3 (fresh_back (e1.trans e2) hd) ((e1.trans e2).trans e3) h3
    | some c =>
      have hch : choiceAt p k0 = [c] := by unfold choiceAt; rw [hpin]
      rw [hch] at k
      refine q_when (et_test (ev_op (ev_var (by rfl)) ev_c rv_isN)) (fun hb => absurd hb (by show ¬ decide (nV c = V.non) = true; rw [decide_eq_true_eq]; intro z; cases z)) (fun hb H2 e2 => ?_)
      exact s_retL (el_lst (ea_cons (ev_var (by rfl)) ea_nil) (by show 1 ≤ 100000; decide)) fun d H3 hd e3 h3 => k d H3 (fresh_back (e1.trans e2) hd) ((e1.trans e2).trans e3) h3
end
end Ps
end

section
set_option maxRecDepth 100000
set_option maxHeartbeats 2000000
namespace Ps
open PySem PySem.Spec PyProof.Rows L2 Evl
open Kp430 (Page Candidate Quota)
section
variable {P : Program} {w : World} {K : PySem.W.Frag} {mg : Str → Option Value} {base : Heap} {CC CP CS : Addr} {σ : L2.St} {H : Hp} {D : Ends} {a : Addr} {L : Lay} {p : Page} {tp tc tl te ta tb tx : TE}
theorem stretch_app (p : Page) (k : Nat) (bs cs : List (List Nat)) : stretch p k (bs ++ cs) = stretch p k bs ++ stretch p k cs := by
  unfold stretch
  rw [List.flatMap_append]
theorem stretch_one (p : Page) (k : Nat) (s : List Nat) : stretch p k [s] = ((choiceAt p k).filter (okStep p s)).map fun c => s ++ [c] := by
  unfold stretch
  rw [List.flatMap_cons, List.flatMap_nil, List.append_nil]
theorem stretch_size {p : Page} (wf : Wf p) (k : Nat) : ∀ bs : List (List Nat), (stretch p k bs).length ≤ 9 * bs.length
  | [] => Nat.le_refl _
  | s :: bs => by
    have e : stretch p k (s :: bs) = stretch p k [s] ++ stretch p k bs := stretch_app p k [s] bs
    rw [e, List.length_append, stretch_one, List.length_map, List.length_cons]
    have h1 := stretch_size wf k bs
    have h2 := Nat.le_trans (List.length_filter_le (okStep p s) (choiceAt p k)) (choice_len wf k)
    omega
theorem take_stretch {p : Page} {k i : Nat} {bs : List (List Nat)} {s : List Nat} (h : bs[i]? = some s) : stretch p k (bs.take (i + 1)) = stretch p k (bs.take i) ++ ((choiceAt p k).filter (okStep p s)).map (fun c => s ++ [c]) := by
  rw [List.take_add_one, h, stretch_app]
  congr 1
  exact stretch_one p k s
theorem take_len_stretch {p : Page} (wf : Wf p) {k i : Nat} {bs : List (List Nat)} : (stretch p k (bs.take i)).length ≤ 9 * bs.length := by
  refine Nat.le_trans (stretch_size wf k _) (Nat.mul_le_mul_left _ ?_)
  rw [List.length_take]
  exact Nat.min_le_right _ _
theorem fair_stretch {p : Page} (wf : Wf p) {k : Nat} {bs : List (List Nat)} (h : ∀ s ∈ bs, s.length = k ∧ Fair p s) : ∀ s ∈ stretch p k bs, s.length = k + 1 ∧ Fair p s := by
  intro s hs
  refine ⟨stretch_len (fun t ht => (h t ht).1) s hs, ?_⟩
  unfold stretch at hs
  obtain ⟨t, ht, hs⟩ := List.mem_flatMap.mp hs
  obtain ⟨c, hc, rfl⟩ := List.mem_map.mp hs
  obtain ⟨h1, h2⟩ := List.mem_filter.mp hc
  exact fair_more wf (h t ht).2 (by rw [(h t ht).1]; exact h1) h2
/-- beginnings in a list, of one length -/
structure BegsAt (p : Page) (H0 H : Hp) (b : Addr) (k : Nat) (bs : List (List Nat)) (ts : List Addr) : Prop where
  ls : H b = some (.lst (ts.map V.ref))
  ts : Each (BegT p H0) H ts bs
  fair : ∀ s ∈ bs, s.length = k ∧ Fair p s
theorem BegsAt.mono {p : Page} {H0 H H' : Hp} {b : Addr} {k : Nat} {bs : List (List Nat)} {ts : List Addr} (h : BegsAt p H0 H b k bs ts) (e : Ex H H') : BegsAt p H0 H' b k bs ts := ⟨e _ _ h.ls, h.ts.imp fun _ _ _ _ q => q.mono e, h.fair⟩
/-- a promise of beginnings -/
def RetB (p : Page) (k : Nat) (bs : List (List Nat)) (H : Hp) (Q : VK) : Prop := ∀ d ts H', H d = none → Ex H H' → BegsAt p H H' d k bs ts → Q (.ref d) H'
def spLen (CC CP : Addr) : Sp := fun vs H Q _ => ∃ a p b k bs ts H0, vs = [.ref a, .ref b, nV k] ∧ PageAt CC CP H a p ∧ Wf p ∧ k < p.weights.length ∧ BegsAt p H0 H b k bs ts ∧ bs.length ≤ 9 ^ k ∧ RetB p (k + 1) (stretch p k bs) H Q
theorem pow9 {k : Nat} (h : k ≤ 4) : 9 ^ k ≤ 6561 := Nat.le_trans (Nat.pow_le_pow_right (by decide) h) (by decide)
theorem or_bits {s : List Nat} {c : Nat} : Builtin.bitOr ((bitsOf s : Nat) : Int) ((1 : Int) * 2 ^ ((c : Int)).toNat) = ((bitsOf (s ++ [c]) : Nat) : Int) := by
  have e : ((1 : Int) * 2 ^ ((c : Int)).toNat) = ((2 ^ c : Nat) : Int) := by
    rw [Int.one_mul]
    simp
  rw [e, Bits.bitOr_pp (Int.natCast_nonneg _) (Int.natCast_nonneg _), bits_app]
  rfl
theorem crs_at {p : Page} {c : Nat} (h : c < p.candidates.length) : ((crs p (Kp430.all p)).map nV)[c]? = some (nV (crOf p c)) := by
  unfold crs Kp430.all
  rw [List.getElem?_map, List.getElem?_map, List.getElem?_range h]
  rfl
theorem all_at {p : Page} {c : Nat} {F : Nat → V} (h : c < p.candidates.length) : ((Kp430.all p).map F)[c]? = some (F c) := by
  unfold Kp430.all
  rw [List.getElem?_map, List.getElem?_range h]
  rfl
abbrev s_lengthen : Stmt := topS 75
theorem sc_lengthen : FnScope ["page", "beginnings", "position", "choices", "creators", "parts", "first_close", "longer", "listed", "relevance", "members", "close", "candidate"] ["page", "beginnings", "position"] (defScope s_lengthen) := ⟨rfl, rfl, rfl, by decide +kernel, rfl, by decide +kernel, by decide +kernel⟩
theorem ok_lengthen (T : Txt K mg CC CP CS) (F : FunAt K mg "lengthen" s_lengthen ["page", "beginnings", "position"]) (D_choices_at : DefAt P w K mg base 1 "choices_at" ["page", "position"] (spL (rChoice CC CP))) (D_creators_of : DefAt P w K mg base 1 "creators_of" ["page", "listed"] (spL (rCrs K CC CP))) :
    DefAt P w K mg base 2 "lengthen" ["page", "beginnings", "position"] (spLen CC CP) := by
  obtain ⟨f, fd, FF, hm, hb⟩ := F.ex
  refine ⟨f, fd, FF.ok sc_lengthen (fun vs H Q E h => ?_) (fun cdv A outer s H vs Q E hr h => ⟨_, (pss_cons (ps_set (i := 3) sc_lengthen.nd rfl (Or.inl rfl) (pe_cd D_choices_at (hr.mono (by decide)) pass0 (pa_cons (pv 0) (pa_cons (pv 2) pa_nil))))
      (pss_cons (ps_set (i := 4) sc_lengthen.nd rfl (Or.inr rfl) (pe_cd D_creators_of (hr.mono (by decide)) pass0 (pa_cons (pv 0) (pa_cons (pe_listRg (by rfl) (by rfl) T.list (prg_1 (by rfl) T.range (pe_callB (lenK (K := K)) (by rfl) T.len (by decide +kernel) (pa_cons (fldK (K := K) (pv 0)) pa_nil)))) pa_nil))))
      (pss_cons (ps_setLc (i := 5) (own := [("candidate", 12)]) rfl sc_lengthen.nd rfl rfl (sw_true rfl rfl rfl (by decide +kernel)) (wList (K := K) (fldK (K := K) (pv 0))) (blkOk_by (own := [("candidate", 12)]) (N := ["page", "beginnings", "position", "choices", "creators", "parts", "first_close", "longer", "listed", "relevance", "members", "close", "candidate"]) (sc := defScope s_lengthen) (by decide +kernel)) (fun _ _ _ _ _ => pg_name (i := 12) sc_lengthen.nd rfl (Or.inl rfl)) (fun _ _ _ _ _ => pts_nil) (fun _ _ _ _ _ => (pe_op op_mul (pe_ix (ixL (K := K)) (fldK (K := K) (pv 0)) (pv 2) (fun _ _ => rfl)) (fldK (K := K) (pv 12)))))
      (pss_cons (ps_set (i := 6) sc_lengthen.nd rfl (Or.inl rfl) (pe_callB max2K (by rfl) T.max (by decide +kernel) (pa_cons pe_int (pa_cons (pe_op op_sub (pe_op op_add (pv 2) pe_int) (fldK (K := K) (pv 0))) pa_nil))))
      (pss_cons (ps_set (i := 7) sc_lengthen.nd rfl (Or.inl rfl) (pe_lst pa_nil))
      (pss_cons (ps_for PassesOwn.never rfl (wList (K := K) (pv 1)) (gTupK (K := K) (n := 3) (pgs_cons (pg_name (i := 8) sc_lengthen.nd rfl (Or.inl rfl)) (pgs_cons (pg_name (i := 9) sc_lengthen.nd rfl (Or.inl rfl)) (pgs_cons (pg_name (i := 10) sc_lengthen.nd rfl (Or.inl rfl)) pgs_nil))))
        (pss_cons (ps_setLc (i := 11) (own := [("candidate", 12)]) rfl sc_lengthen.nd rfl rfl (sw_true rfl rfl rfl (by decide +kernel)) (wList (K := K) (pe_slice (slL (K := K)) (pv 8) (po_some (pv 6)) po_none)) (blkOk_by (own := [("candidate", 12)]) (N := ["page", "beginnings", "position", "choices", "creators", "parts", "first_close", "longer", "listed", "relevance", "members", "close", "candidate"]) (sc := defScope s_lengthen) (by decide +kernel)) (fun _ _ _ _ _ => pg_name (i := 12) sc_lengthen.nd rfl (Or.inl rfl)) (fun _ _ _ _ _ => pts_nil) (fun _ _ _ _ _ => (pe_ix (ixL (K := K)) (pv 4) (pv 12) (fun _ _ => rfl))))
      (pss_one (ps_for PassesOwn.never rfl (wList (K := K) (pv 3)) (pg_name (i := 12) sc_lengthen.nd rfl (Or.inl rfl))
        (pss_one (ps_if (PW.pt (pw_and (pt_cmpR (notInK (K := K)) (pv 12) (pv 8) (by rfl)) (pw_and1 (pt_cmpR (notInK (K := K)) (pe_ix (ixL (K := K)) (pv 4) (pv 12) (fun _ _ => rfl)) (pv 11) (by rfl))))) (pss_one (ps_expr (bmK (K := K) PySem.F.plainAttrs_list PySem.F.slot_list_append PySem.F.type_list_append mt_append (pv 7) (pa_cons (pe_tup (pa_cons (pe_op op_cat (pv 8) (pe_lst (pa_cons (pv 12) pa_nil))) (pa_cons (pe_op op_add (pv 9) (pe_ix (ixL (K := K)) (pv 5) (pv 12) (fun _ _ => rfl))) (pa_cons (pe_op op_or (pv 10) (pe_op op_shl pe_int (pv 12))) pa_nil)))) pa_nil)))) pss_nil))))))
      (pss_one (ps_ret (pv 7))))))))), ?_⟩), hm, FF.kp, hb⟩
  · obtain ⟨_, _, _, _, _, _, _, rfl, _⟩ := h
    rfl
  · obtain ⟨a, p, b, k0, bs, ts, Hb, rfl, ⟨L, hp⟩, wf, hk0, hB, hsz, k⟩ := h
    have hcn := wf.cn
    have hw5 := wf.w5
    have h9 : bs.length ≤ 6561 := Nat.le_trans hsz (pow9 (by omega))
    have hall : (Kp430.all p).length ≤ 9 := by unfold Kp430.all; rw [List.length_range]; exact hcn
    -- choices, creators, parts, first_close, longer
    refine q_asgL (el_cd (ea_cons (ev_var rfl) (ea_cons (ev_var rfl) ea_nil)) fun H1 e1 => ⟨a, p, k0, rfl, ⟨L, hp.mono e1⟩, wf, hk0, rfl⟩) fun ch H1 hch e1 h1 => ?_
    refine q_asgL (el_cdK (ev_var rfl) (ek_new (el_range (pg_lenC T (hp.mono e1) (ev_var rfl)) (by omega))) fun r H2 e2 h2 => ⟨a, r, p, Kp430.all p, ⟨rfl, ⟨L, hp.mono (e1.trans e2)⟩, wf, sq_of h2, fun n hn => mem_all.mp hn, hall⟩, rfl⟩) fun cr H2 hcr e2 h2 => ?_
    have E2 := e1.trans e2
    have hu := wf.wr
    refine q_asgL (el_lcM (g := fun c => nV (p.weights.getD k0 0 * (Kp430.at_ p c).score)) (es_cands T (hp.mono E2) (ev_var rfl)) (by omega) (by intro _; rfl) fun c H3 e3 hc => ?_) fun pt H3 hpt e3 h3 => ?_
    · have hk := cand_by (hp.mono (E2.trans e3)) (mem_all.mp hc)
      have hp3 := hp.mono (E2.trans e3)
      have hwk : p.weights.getD k0 0 = p.weights[k0] := by rw [List.getD_eq_getElem?_getD, List.getElem?_eq_getElem hk0]; rfl
      have hu0 := hu _ (List.getElem_mem hk0)
      exact ev_is (ev_op (ev_ixS (es_of (pg_weights T hp3 (ev_var rfl)) (sq_of hp3.hw)) (ev_var rfl) (atI_nat (by rw [List.getElem?_map, List.getElem?_eq_getElem hk0]; rfl))) (cd_score T hk (ev_var rfl)) (rv_I (.inl ⟨by omega, by omega⟩))) (by rw [hwk]; simp)
    have E3 := E2.trans e3
    refine q_asg (v := nV (k0 + 1 - p.spacing)) (ev_is (ev_max2 ev_c (ev_op (ev_op (ev_var rfl) ev_c rv_I0) (pg_spacing T (hp.mono E3) (ev_var rfl)) rv_I0)) (by congr 1; split <;> omega)) fun H4 e4 => ?_
    refine q_asgL (el_lst ea_nil (by show 0 ≤ 100000; decide)) fun lo H5 hlo e5 h5 => ?_
    have E4 := E3.trans e4
    have E5 := E4.trans e5
    have hlo0 : H lo = none := fresh_back E4 hlo
    -- the beginnings, one after another
    generalize hW : (fun (i : Nat) (σ' : L2.St) (H' : Hp) => ∃ v8 v9 v10 v11 v12 us, σ' = [some (V.ref a), some (V.ref b), some (nV k0), some (V.ref ch), some (V.ref cr), some (V.ref pt), some (nV (k0 + 1 - p.spacing)), some (V.ref lo), v8, v9, v10, v11, v12] ∧ Ex H4 H' ∧
      H' lo = some (HO.lst (us.map V.ref)) ∧ Each (fun H' t s => ∃ l, H l = none ∧ l ≠ lo ∧ H' t = some (.tup [.ref l, nV (Kp430.relevance p s), nV (bitsOf s)]) ∧ H' l = some (.lst (s.map nV))) H' us (stretch p k0 (bs.take i))) = W
    refine q_forL (xs := ts.map V.ref) (ev_var (by rfl)) (sq_of (E5 _ _ hB.ls)) W (fun H6 e6 => ?_) (fun i σ' H' _ q => ?_) ?_ ?_
    · subst hW
      exact ⟨none, none, none, none, none, [], rfl, e5.trans e6, e6 _ _ h5, Each.nil⟩
    · subst hW
      obtain ⟨_, _, _, _, _, _, _, q, _⟩ := q
      exact sq_of ((E4.trans q) _ _ hB.ls)
    · intro i x σ' H' hi hq
      obtain ⟨t, ht, rfl⟩ := getE_map hi
      have hq2 := hq
      rw [← hW] at hq2
      obtain ⟨v8, v9, v10, v11, v12, us, rfl, eH, hl, hE⟩ := hq2
      obtain ⟨s0, hs0, l0, hl0, hT, hL⟩ := hB.ts.at_ ht
      have hmem := List.mem_of_getElem? hs0
      obtain ⟨hlen, hfair⟩ := hB.fair s0 hmem
      have E := E4.trans eH
      have hT' := E _ _ hT
      have hL' := E _ _ hL
      refine g_three hT' ?_
      have hs5 : s0.length ≤ 5 := by omega
      refine q_asgL (EvL.is (el_lcM (l := s0.drop (s0.length + 1 - p.spacing)) (r := nV) (g := fun c => nV (crOf p c)) (EvS.is (es_new (es_sl (es_of (ev_var (by rfl)) (sq_of hL')) (eo_some (ev_var rfl)) eo_none)) (by rw [cut_from, List.map_drop, hlen])) (by rw [List.length_drop]; omega) (by intro _; rfl) fun c H7 e7 hc => ?_) (show _ = (closeTo p s0).map nV by unfold closeTo; rw [List.map_map]; rfl)) fun cl H7 hcl e7 h7 => ?_
      · have hcin := hfair.in_ c (List.mem_of_mem_drop hc)
        exact ev_ixS (es_of (ev_var (by rfl)) (sq_of (((e3.trans e4).trans (eH.trans e7)) _ _ h2))) (ev_var rfl) (atI_nat (crs_at hcin))
      have hlo7 := e7 _ _ hl
      have E7 := E.trans e7
      -- the choices, one after another
      refine s_forLn (xs := (choiceAt p k0).map nV) (ev_var (by rfl)) (sq_of (((e2.trans e3).trans (e4.trans (eH.trans e7))) _ _ h1)) (fun j σ2 H8 => ∃ v12 us, σ2 = [some (.ref a), some (.ref b), some (nV k0), some (.ref ch), some (.ref cr), some (.ref pt), some (nV (k0 + 1 - p.spacing)), some (.ref lo), some (.ref l0), some (nV (Kp430.relevance p s0)), some (nV (bitsOf s0)), some (.ref cl), v12] ∧ Ex H4 H8 ∧
        H8 cl = some (.lst ((closeTo p s0).map nV)) ∧ H8 lo = some (.lst (us.map V.ref)) ∧ Each (fun H' t s => ∃ l, H l = none ∧ l ≠ lo ∧ H' t = some (.tup [.ref l, nV (Kp430.relevance p s), nV (bitsOf s)]) ∧ H' l = some (.lst (s.map nV))) H8 us (stretch p k0 (bs.take i) ++ (((choiceAt p k0).take j).filter (okStep p s0)).map fun c => s0 ++ [c]))
        (fun H8 e8 => ⟨_, us, rfl, eH.trans (e7.trans e8), e8 _ _ h7, e8 _ _ hlo7, ?_⟩) (fun j σ2 H8 _ ⟨_, _, _, q, _⟩ => sq_of (((e2.trans e3).trans (e4.trans q)) _ _ h1)) ?_ ?_
      · rw [List.take_zero, List.filter_nil, List.map_nil, List.append_nil]
        exact hE.imp fun t s _ _ ⟨l, q1, q2, q3, q4⟩ => ⟨l, q1, q2, (e7.trans e8) _ _ q3, (e7.trans e8) _ _ q4⟩
      · rintro j x σ2 H8 hj ⟨v12, us, rfl, e8, hc8, hl8, hE8⟩
        obtain ⟨c, hc, rfl⟩ := getE_map hj
        have hcc := choice_lt wf (List.mem_of_getElem? hc)
        have E8 := E4.trans e8
        have stp : (choiceAt p k0).take (j + 1) = (choiceAt p k0).take j ++ [c] := by rw [List.take_add_one, hc]; rfl
        have hcreat : ∀ H9, Ex H8 H9 → ∀ {σ : L2.St}, σ[4]? = some (some (.ref cr)) → EvS K (tVar 4) σ H9 ((crs p (Kp430.all p)).map nV) := fun H9 e9 σ h0 => es_of (ev_var h0) (sq_of (((e3.trans e4).trans (e8.trans e9)) _ _ h2))
        have hlsz : us.length < 100000 := by
          have h1 := hE8.1
          rw [List.length_append, List.length_map] at h1
          have h2 := take_len_stretch wf (k := k0) (i := i) (bs := bs)
          have h3 := Nat.le_trans (List.length_filter_le (okStep p s0) ((choiceAt p k0).take j)) (Nat.le_trans (List.length_take_le' _ _) (choice_len wf k0))
          omega
        refine s_when (b := okStep p s0 c) (et_is (et_and (et_test (ev_op (ev_var (by rfl)) (ev_var (by rfl)) (rv_niL (sq_of ((E8 _ _ hL))) rfl (flat_nats _)))) fun _ => et_test (ev_op (ev_ixS (hcreat H8 (Ex.refl _) (by rfl)) (ev_var (by rfl)) (atI_nat (crs_at hcc))) (ev_var (by rfl)) (rv_niL (sq_of hc8) rfl (flat_nats _)))) ?_) (fun hb H9 e9 => ?_) (fun hb H9 e9 => ?_)
        · rw [inV_nats, inV_nats]; rfl
        · have E9 := E8.trans e9
          have hpt : ∀ H', Ex H9 H' → H' pt = some (.lst ((Kp430.all p).map fun c => nV (p.weights.getD k0 0 * (Kp430.at_ p c).score))) := fun H' e' => (e4.trans ((e8.trans e9).trans e')) _ _ h3
          refine s_appT3 (ys := (s0 ++ [c]).map nV) (x := nV (Kp430.relevance p (s0 ++ [c]))) (y := nV (bitsOf (s0 ++ [c]))) (e9 _ _ hl8) (ev_var (by rfl)) (EvL.is (el_cc (ek_of (ev_var (by rfl)) (E9 _ _ hL)) (ek_new (el_lst (ea_cons (ev_var (by rfl)) ea_nil) (by show 1 ≤ 100000; decide))) (by rw [List.length_map]; show s0.length + 1 ≤ 100000; omega)) (by rw [List.map_append]; rfl))
            (fun H' e' => ev_is (ev_op (ev_var (by rfl)) (ev_ixS (es_of (ev_var (by rfl)) (sq_of (hpt H' e'))) (ev_var (by rfl)) (atI_nat (all_at hcc))) rv_I0) (by rw [rel_app (by omega), hlen]; simp)) (fun H' e' => ev_is (ev_op (ev_var (by rfl)) (ev_op ev_c (ev_var (by rfl)) (rv_I ⟨by omega, by omega, by decide⟩)) rv_I0) (congrArg V.int or_bits)) (by rw [List.length_map]; exact hlsz) fun l t H10 nl0 nl nt e10 h10 t10 => ?_
          refine ⟨_, us ++ [t], rfl, Ex.mut (e8.trans (e9.trans e10)) hlo, ?_, by rw [upd_same, List.map_append]; rfl, ?_⟩
          · rw [upd_ne (fun z => by rw [z, hl] at hcl; cases hcl)]
            exact (e9.trans e10) _ _ hc8
          · rw [stp, List.filter_append, List.map_append, ← List.append_assoc]
            have ef : ([c].filter (okStep p s0)).map (fun c => s0 ++ [c]) = [s0 ++ [c]] := by simp [hb]
            rw [ef]
            refine Each.snoc (hE8.imp fun t' s' _ _ ⟨l', q1, q2, q3, q4⟩ => ⟨l', q1, q2, ?_, ?_⟩) ⟨l, fresh_back E9 nl0, nl, by rw [upd_ne nt]; exact t10, by rw [upd_ne nl]; exact h10⟩
            · have := (e9.trans e10) _ _ q3
              rw [upd_ne (fun z => by rw [z, (e9.trans e10) _ _ hl8] at this; cases this)]
              exact this
            · rw [upd_ne q2]
              exact (e9.trans e10) _ _ q4
        · refine ⟨_, us, rfl, e8.trans e9, e9 _ _ hc8, e9 _ _ hl8, ?_⟩
          rw [stp, List.filter_append, List.map_append, ← List.append_assoc]
          have ef : ([c].filter (okStep p s0)).map (fun c => s0 ++ [c]) = [] := by simp [hb]
          rw [ef, List.append_nil]
          exact hE8.imp fun t s _ _ ⟨l, q1, q2, q3, q4⟩ => ⟨l, q1, q2, e9 _ _ q3, e9 _ _ q4⟩
      · rintro σ2 H8 ⟨v12, us, rfl, e8, hc8, hl8, hE8⟩
        rw [List.length_map, List.take_length] at hE8
        rw [← hW]
        exact ⟨_, _, _, _, _, us, rfl, e8, hl8, by rw [take_stretch hs0]; exact hE8⟩
    · intro σ' H' hq
      rw [← hW] at hq
      obtain ⟨v8, v9, v10, v11, v12, us, rfl, eH, hl, hE⟩ := hq
      rw [List.length_map, hB.ts.1, List.take_length] at hE
      refine s_ret (ev_var (by rfl)) fun H6 e6 => k lo us H6 hlo0 (E4.trans (eH.trans e6)) ⟨e6 _ _ hl, hE.imp fun t s _ _ ⟨l, q1, q2, q3, q4⟩ => ⟨l, q1, e6 _ _ q3, e6 _ _ q4⟩, fair_stretch wf hB.fair⟩
end
end Ps
end

section
set_option maxRecDepth 100000
set_option maxHeartbeats 2000000
namespace Ps
open PySem PySem.Spec PyProof.Rows L2 Evl
open Kp430 (Page Candidate Quota)
section
variable {P : Program} {w : World} {K : PySem.W.Frag} {mg : Str → Option Value} {base : Heap} {CC CP CS : Addr} {σ : L2.St} {H : Hp} {D : Ends} {a : Addr} {L : Lay} {p : Page} {tp tc tl te ta tb tx : TE} {tz : TS}
theorem BegT.back {p : Page} {H0 H1 H : Hp} {t : Addr} {s : List Nat} (h : BegT p H1 H t s) (e : Ex H0 H1) : BegT p H0 H t s := by
  obtain ⟨l, h0, h1, h2⟩ := h
  exact ⟨l, fresh_back e h0, h1, h2⟩
theorem BegsAt.back {p : Page} {H0 H1 H : Hp} {b : Addr} {k : Nat} {bs : List (List Nat)} {ts : List Addr} (h : BegsAt p H1 H b k bs ts) (e : Ex H0 H1) : BegsAt p H0 H b k bs ts := ⟨h.ls, h.ts.imp fun _ _ _ _ q => q.back e, h.fair⟩
theorem layers_snoc (p : Page) : ∀ (n k : Nat) (bs : List (List Nat)), layers p (n + 1) k bs = stretch p (k + n) (layers p n k bs)
  | 0, k, bs => rfl
  | n + 1, k, bs => by
    show layers p (n + 1) (k + 1) (stretch p k bs) = _
    rw [layers_snoc p n (k + 1)]
    have e : k + 1 + n = k + (n + 1) := by omega
    rw [e]
    rfl
theorem layers_size {p : Page} (wf : Wf p) : ∀ n, (layers p n 0 [[]]).length ≤ 9 ^ n
  | 0 => Nat.le_refl 1
  | n + 1 => by
    rw [layers_snoc, Nat.zero_add]
    refine Nat.le_trans (stretch_size wf n _) ?_
    rw [Nat.pow_succ, Nat.mul_comm]
    exact Nat.mul_le_mul_right _ (layers_size wf n)
/-- i = [([], x, y)] -/
theorem q_asgB0 {i : Nat} {x y : V} (k : ∀ d t l H1, H d = none → H l = none → Ex H H1 → H1 d = some (.lst [.ref t]) → H1 t = some (.tup [.ref l, x, y]) → H1 l = some (.lst []) → tz D (σ.set i (some (.ref d))) H1) :
    tSeq (tAsg (tLst (tCons (tTup (tCons (tLst tNil) (tCons (tC x) (tCons (tC y) tNil)))) tNil)) (gName i)) tz D σ H := ⟨by show 0 ≤ sizeLine; exact sz_of (by decide), fun l hl => ⟨by show 3 ≤ sizeLine; exact sz_of (by decide), fun t ht => ⟨by show 1 ≤ sizeLine; exact sz_of (by decide), fun d hd => by
  have e1 : Ex H (upd H l (.lst [])) := Ex.new hl
  have e2 : Ex (upd H l (.lst [])) (upd (upd H l (.lst [])) t (.tup [.ref l, x, y])) := Ex.new ht
  have e3 : Ex (upd (upd H l (.lst [])) t (.tup [.ref l, x, y])) (upd (upd (upd H l (.lst [])) t (.tup [.ref l, x, y])) d (.lst [.ref t])) := Ex.new hd
  exact k d t l _ (fresh_back (e1.trans e2) hd) hl ((e1.trans e2).trans e3) upd_same (e3 _ _ upd_same) ((e2.trans e3) _ _ upd_same)⟩⟩⟩
/-- i = lengthen(..) -/
theorem s_len {i : Nat} {tq : TA} {b : Addr} {k0 : Nat} {bs : List (List Nat)} {ts : List Addr} {H0 : Hp} (h : EvA tq σ H [.ref a, .ref b, nV k0]) (hp : PageAt CC CP H a p) (wf : Wf p) (hk0 : k0 < p.weights.length) (hB : BegsAt p H0 H b k0 bs ts) (hsz : bs.length ≤ 9 ^ k0)
    (k : ∀ d us H1, H d = none → Ex H H1 → BegsAt p H H1 d (k0 + 1) (stretch p k0 bs) us → D.nx (σ.set i (some (.ref d))) H1) : tAsg (tCall (spLen CC CP) [] E0 tq) (gName i) D σ H := h H (Ex.refl H) _ fun H1 e1 => by
  show spLen CC CP ([V.ref a, .ref b, nV k0] ++ []) H1 _ E0
  exact ⟨a, p, b, k0, bs, ts, H0, rfl, hp.mono e1, wf, hk0, hB.mono e1, hsz, fun d us H2 hd e2 hB2 => k d us H2 (fresh_back e1 hd) (e1.trans e2) (hB2.back e1)⟩
def spArr (CC CP : Addr) : Sp := fun vs H Q _ => ∃ a p, vs = [.ref a] ∧ PageAt CC CP H a p ∧ Wf p ∧ ∀ d ts H', H d = none → Ex H H' → BegsAt p H H' d p.weights.length (arranged p) ts → Q (.ref d) H'
abbrev s_arrangements : Stmt := topS 76
theorem sc_arrangements : FnScope ["page", "beginnings", "position"] ["page"] (defScope s_arrangements) := ⟨rfl, rfl, rfl, by decide +kernel, rfl, by decide +kernel, by decide +kernel⟩
theorem ok_arrangements (T : Txt K mg CC CP CS) (F : FunAt K mg "arrangements" s_arrangements ["page"]) (D_lengthen : DefAt P w K mg base 2 "lengthen" ["page", "beginnings", "position"] (spLen CC CP)) : DefAt P w K mg base 3 "arrangements" ["page"] (spArr CC CP) := by
  obtain ⟨f, fd, FF, hm, hb⟩ := F.ex
  refine ⟨f, fd, FF.ok sc_arrangements (fun vs H Q E h => ?_) (fun cdv A outer s H vs Q E hr h => ⟨_, (pss_cons (ps_set (i := 1) sc_arrangements.nd rfl (Or.inl rfl) (pe_lst (pa_cons (pe_tup (pa_cons (pe_lst pa_nil) (pa_cons pe_int (pa_cons pe_int pa_nil)))) pa_nil)))
      (pss_cons (ps_for PassesOwn.never rfl (pi_range1 (by rfl) T.range (pa_cons (pe_callB (lenK (K := K)) (by rfl) T.len (by decide +kernel) (pa_cons (fldK (K := K) (pv 0)) pa_nil)) pa_nil)) (pg_name (i := 2) sc_arrangements.nd rfl (Or.inl rfl))
        (pss_one (ps_set (i := 1) sc_arrangements.nd rfl (Or.inl rfl) (pe_cd D_lengthen (hr.mono (by decide)) pass0 (pa_cons (pv 0) (pa_cons (pv 1) (pa_cons (pv 2) pa_nil)))))))
      (pss_one (ps_ret (pv 1))))), ?_⟩), hm, FF.kp, hb⟩
  · obtain ⟨_, _, rfl, _⟩ := h
    rfl
  · obtain ⟨a, p, rfl, ⟨L, hp⟩, wf, k⟩ := h
    have hw5 := wf.w5
    refine q_asgB0 fun d t l H1 hd hl e1 h1 ht1 hl1 => ?_
    refine q_forR1 (n := (p.weights.length : Int)) (ea_cons (pg_lenW T (hp.mono e1) (ev_var rfl)) ea_nil) ⟨by omega, by omega⟩ (fun i σ' H' => ∃ d ts v2, σ' = [some (.ref a), some (.ref d), v2] ∧ H d = none ∧ Ex H H' ∧ BegsAt p H H' d i (layers p i 0 [[]]) ts)
      (fun H2 e2 => ⟨d, [t], none, rfl, hd, e1.trans e2, e2 _ _ h1, ⟨rfl, fun i u s h2 h3 => ?_⟩, fun s hs => by rw [List.mem_singleton.mp hs]; exact ⟨rfl, fair_nil p⟩⟩) ?_ ?_
    · cases i with
      | succ i => simp at h2
      | zero =>
        cases h2
        cases h3
        have q := e2 _ _ ht1
        have z1 : Kp430.relevance p [] = 0 := by unfold Kp430.relevance; rw [List.zip_nil_right]; rfl
        refine ⟨l, hl, ?_, e2 _ _ hl1⟩
        rw [z1]
        exact q
    · rintro i σ' H' hi ⟨d, ts, v2, rfl, hd, eH, hB⟩
      have hi2 : i < p.weights.length := by omega
      have e0 : V.int ((0 : Int) + (i : Int)) = nV i := by rw [Int.zero_add]
      refine s_len (k0 := i) (ea_cons (ev_var rfl) (ea_cons (ev_var rfl) (ea_cons (ev_var rfl) ea_nil))) ⟨L, hp.mono eH⟩ wf hi2 hB (layers_size wf i) fun d2 us H2 hd2 e2 hB2 => ⟨d2, us, _, rfl, fresh_back eH hd2, eH.trans e2, ?_⟩
      rw [layers_snoc, Nat.zero_add]
      exact hB2.back eH
    · rintro σ' H' ⟨d, ts, v2, rfl, hd, eH, hB⟩
      have er : ((p.weights.length : Int)).toNat = p.weights.length := by omega
      rw [er] at hB
      exact s_ret (ev_var rfl) fun H2 e2 => k d ts H2 hd (eH.trans e2) (hB.mono e2)
def rPart (K : PySem.W.Frag) (CC CP : Addr) : List V → Hp → V → Prop := fun vs H z => ∃ a l p ns, Asked K CC CP vs H a l p ns ∧ z = oV (partOf p ns)
abbrev s_diversity_part : Stmt := topS 77
theorem sc_diversity_part : FnScope ["page", "slate"] ["page", "slate"] (defScope s_diversity_part) := ⟨rfl, rfl, rfl, by decide +kernel, rfl, by decide +kernel, by decide +kernel⟩
theorem ok_diversity_part (T : Txt K mg CC CP CS) (F : FunAt K mg "diversity_part" s_diversity_part ["page", "slate"]) (D_members_fit : DefAt P w K mg base 3 "members_fit" ["page", "listed"] (spV (rFits K CC CP))) (D_coverage_of : DefAt P w K mg base 1 "coverage_of" ["page", "listed"] (spV (rCov K CC CP))) :
    DefAt P w K mg base 4 "diversity_part" ["page", "slate"] (spV (rPart K CC CP)) := by
  obtain ⟨f, fd, FF, hm, hb⟩ := F.ex
  refine ⟨f, fd, FF.ok sc_diversity_part (fun vs H Q E h => ?_) (fun cdv A outer s H vs Q E hr h => ⟨_, (pss_cons (ps_if (pt_not (pt_val (pe_cd D_members_fit (hr.mono (by decide)) pass0 (pa_cons (pv 0) (pa_cons (pv 1) pa_nil))))) (pss_one (ps_ret pe_non)) pss_nil)
      (pss_one (ps_ret (pe_op op_mul (fldK (K := K) (pv 0)) (pe_cd D_coverage_of (hr.mono (by decide)) pass0 (pa_cons (pv 0) (pa_cons (pv 1) pa_nil))))))), ?_⟩), hm, FF.kp, hb⟩
  · obtain ⟨z, ⟨_, _, _, _, ⟨rfl, _⟩, _⟩, _⟩ := h
    rfl
  · obtain ⟨z, ⟨a, l, p, ns, hA, rfl⟩, k⟩ := h
    have hA' := hA
    obtain ⟨rfl, ⟨L, hp⟩, wf, hS, hin, hfit⟩ := hA'
    have hdv := wf.dv
    refine q_when (et_not (et_B (ev_cd (z := .bl (fits p ns)) (ea_cons (ev_var rfl) (ea_cons (ev_var rfl) ea_nil)) fun H1 e1 => ⟨a, l, p, ns, hA.mono e1, rfl⟩))) (fun hb H1 e1 => ?_) (fun hb H1 e1 => ?_)
    · rw [Bool.not_eq_true'] at hb
      have : partOf p ns = none := by unfold partOf; rw [hb]; rfl
      rw [this] at k
      exact s_ret ev_c fun H2 e2 => k H2 (e1.trans e2)
    · rw [Bool.not_eq_false'] at hb
      have : partOf p ns = some (p.diversity * (Kp430.covered p ns).length) := by unfold partOf; rw [hb]; rfl
      rw [this] at k
      refine s_ret (ev_is (ev_op (pg_diversity T (hp.mono e1) (ev_var rfl)) (ev_cd (ea_cons (ev_var rfl) (ea_cons (ev_var rfl) ea_nil)) fun H2 e2 => ⟨a, l, p, ns, (hA.mono (e1.trans e2)).to9, rfl⟩) (rv_I (.inl ⟨by omega, by omega⟩))) ?_) fun H2 e2 => k H2 (e1.trans e2)
      show V.int _ = V.int _
      congr 1
/-! ### feasible_slates -/
def FndT (p : Page) (H : Hp) (t : Addr) (s : List Nat) : Prop := ∃ l, H t = some (.tup [nV (Kp430.value p s), .ref l]) ∧ H l = some (.lst (s.map nV))
theorem FndT.mono {p : Page} {H H' : Hp} {t : Addr} {s : List Nat} (h : FndT p H t s) (e : Ex H H') : FndT p H' t s := by
  obtain ⟨l, h1, h2⟩ := h
  exact ⟨l, e _ _ h1, e _ _ h2⟩
/-- values and slates in a list -/
structure FoundAt (p : Page) (H : Hp) (d : Addr) (ts : List Addr) (ss : List (List Nat)) : Prop where
  ls : H d = some (.lst (ts.map V.ref))
  ts : Each (FndT p) H ts ss
theorem FoundAt.mono {p : Page} {H H' : Hp} {d : Addr} {ts : List Addr} {ss : List (List Nat)} (h : FoundAt p H d ts ss) (e : Ex H H') : FoundAt p H' d ts ss := ⟨e _ _ h.ls, h.ts.imp fun _ _ _ _ q => q.mono e⟩
def spFound (CC CP : Addr) : Sp := fun vs H Q _ => ∃ a p, vs = [.ref a] ∧ PageAt CC CP H a p ∧ Wf p ∧ ∀ d ts H', H d = none → Ex H H' → FoundAt p H' d ts (Kp430.feasible p) → Q (.ref d) H'
def keyB (s : List Nat) : Key := Sum.inl ((bitsOf s : Nat) : Int)
theorem key_eq {s t : List Nat} : keyB s = keyB t ↔ bitsOf s = bitsOf t := by
  unfold keyB
  constructor
  · intro h
    have := Sum.inl.inj h
    omega
  · intro h
    rw [h]
/-- so far: the values and slates, and the parts -/
structure FI (p : Page) (H H4 : Hp) (fd pd : Addr) (n : Nat) (ss : List (List Nat)) (fs : List Addr) (kvs : List (Key × V)) (H' : Hp) : Prop where
  ex : Ex H H'
  hx : ∀ x o, H4 x = some o → x ≠ fd → x ≠ pd → H' x = some o
  ls : H' fd = some (.lst (fs.map V.ref))
  ft : Each (fun H' t s => ∃ l, l ≠ fd ∧ l ≠ pd ∧ H' t = some (.tup [nV (Kp430.value p s), .ref l]) ∧ H' l = some (.lst (s.map nV))) H' fs ss
  dd : H' pd = some (.dK kvs)
  dl : kvs.length ≤ n
  dv : ∀ s ∈ arranged p, ∀ v, valV kvs (keyB s) = some v → v = oV (partOf p s)
theorem FI.mono {p : Page} {H H4 : Hp} {fd pd : Addr} {n : Nat} {ss : List (List Nat)} {fs : List Addr} {kvs : List (Key × V)} {H' H'' : Hp} (h : FI p H H4 fd pd n ss fs kvs H') (e : Ex H' H'') : FI p H H4 fd pd n ss fs kvs H'' :=
  ⟨h.ex.trans e, fun x o q a b => e _ _ (h.hx x o q a b), e _ _ h.ls, h.ft.imp fun t s _ _ ⟨l, q1, q2, q3, q4⟩ => ⟨l, q1, q2, e _ _ q3, e _ _ q4⟩, e _ _ h.dd, h.dl, h.dv⟩
/-- l.append((x, y)) -/
theorem s_appT2 {lo : Addr} {xs : List V} {x y : V} (hl : H lo = some (.lst xs)) (ha : Ev ta σ H (.ref lo)) (h1 : Ev tb σ H x) (h2 : Ev tx σ H y) (hz : xs.length < 100000)
    (k : ∀ t H1, H t = none → t ≠ lo → Ex H H1 → H1 t = some (.tup [x, y]) → D.nx σ (upd H1 lo (.lst (xs ++ [.ref t])))) :
    tDrop (tBM K "list" rAppend ta (tCons (tTup (tCons tb (tCons tx tNil))) tNil)) D σ H :=
  ha H (Ex.refl H) _ fun H1 e1 => ⟨Or.inl ⟨rfl, xs, sq_of (e1 lo _ hl)⟩, h1 H1 e1 _ fun H3 e3 => h2 H3 (e1.trans e3) _ fun H4 e4 => ⟨by show 2 ≤ sizeLine; exact sz_of (by decide), fun t ht => by
    have E4 := (e1.trans e3).trans e4
    have hlo := E4 _ _ hl
    have nt : t ≠ lo := fun z => by rw [z, hlo] at ht; cases ht
    have eT : Ex H4 (upd H4 t (.tup [x, y])) := Ex.new ht
    exact ⟨lo, xs, _, rfl, rfl, eT _ _ hlo, sz_lt hz, k t _ (fresh_back E4 ht) nt (E4.trans eT) upd_same⟩⟩⟩
theorem q_forArr {g : TG} {tu : TS} {tq : TA} (h : EvA tq σ H [.ref a]) (hp : PageAt CC CP H a p) (wf : Wf p) (k : ∀ d ts H1, H d = none → Ex H H1 → BegsAt p H H1 d p.weights.length (arranged p) ts → ∃ Pv : Nat → L2.St → Hp → Prop, Pv 0 σ H1 ∧ (∀ i σ' H', Pv i σ' H' → SqL K H' d (ts.map V.ref)) ∧
    (∀ i x σ' H', (ts.map V.ref)[i]? = some x → Pv i σ' H' → g x σ' H' fun σ2 H2 => tu { D with nx := Pv (i + 1), ct := Pv (i + 1), bk := tz D } σ2 H2) ∧ (∀ σ' H', Pv (ts.map V.ref).length σ' H' → tz D σ' H')) : tSeq (tFor (iList K (tCall (spArr CC CP) [] E0 tq)) g tu) tz D σ H := h H (Ex.refl H) _ fun H1 e1 => by
  show spArr CC CP ([V.ref a] ++ []) H1 _ E0
  exact ⟨a, p, rfl, hp.mono e1, wf, fun d ts H2 hd e2 hB => by
    obtain ⟨Pv, p0, pe, ps, pd⟩ := k d ts H2 (fresh_back e1 hd) (e1.trans e2) (hB.back e1)
    exact ⟨d, rfl, ⟨_, sq_of hB.ls⟩, for_list (xs := ts.map V.ref) Pv p0 (fun i σ' H' _ q => pe i σ' H' q) ps pd⟩⟩
theorem q_newD {i : Nat} (k : ∀ d H1, H d = none → Ex H H1 → H1 d = some (.dK []) → tz D (σ.set i (some (.ref d))) H1) : tSeq (tAsg tDNewK (gName i)) tz D σ H := fun d hd => k d _ hd (Ex.new hd) upd_same
abbrev s_feasible_slates : Stmt := topS 78
theorem sc_feasible_slates : FnScope ["page", "found", "parts", "slate", "relevance", "members", "part"] ["page"] (defScope s_feasible_slates) := ⟨rfl, rfl, rfl, by decide +kernel, rfl, by decide +kernel, by decide +kernel⟩
theorem ok_feasible_slates (T : Txt K mg CC CP CS) (F : FunAt K mg "feasible_slates" s_feasible_slates ["page"]) (D_arrangements : DefAt P w K mg base 3 "arrangements" ["page"] (spArr CC CP)) (D_diversity_part : DefAt P w K mg base 4 "diversity_part" ["page", "slate"] (spV (rPart K CC CP))) :
    DefAt P w K mg base 5 "feasible_slates" ["page"] (spFound CC CP) := by
  obtain ⟨f, fd, FF, hm, hb⟩ := F.ex
  refine ⟨f, fd, FF.ok sc_feasible_slates (fun vs H Q E h => ?_) (fun cdv A outer s H vs Q E hr h => ⟨_, (pss_cons (ps_set (i := 1) sc_feasible_slates.nd rfl (Or.inl rfl) (pe_lst pa_nil))
      (pss_cons (ps_set (i := 2) sc_feasible_slates.nd rfl (Or.inl rfl) pe_dnewK)
      (pss_cons (ps_for PassesOwn.never rfl (wList (K := K) (pe_cd D_arrangements (hr.mono (by decide)) pass0 (pa_cons (pv 0) pa_nil))) (gTupK (K := K) (n := 3) (pgs_cons (pg_name (i := 3) sc_feasible_slates.nd rfl (Or.inl rfl)) (pgs_cons (pg_name (i := 4) sc_feasible_slates.nd rfl (Or.inl rfl)) (pgs_cons (pg_name (i := 5) sc_feasible_slates.nd rfl (Or.inl rfl)) pgs_nil))))
        (pss_cons (ps_if (pt_cmp (pc_dnotin (hu_of hr) (pv 5) (pv 2))) (pss_one (ps_dput (hu_of hr) (pv 2) (pv 5) (pe_cd D_diversity_part (hr.mono (by decide)) pass0 (pa_cons (pv 0) (pa_cons (pv 3) pa_nil))) rfl)) pss_nil)
      (pss_cons (ps_set (i := 6) sc_feasible_slates.nd rfl (Or.inl rfl) (pe_dget (hu_of hr) (pv 2) (pv 5) (fun _ _ => rfl)))
      (pss_one (ps_if (pt_cmpR op_notN (pv 6) pe_non (nomark _)) (pss_one (ps_expr (bmK (K := K) PySem.F.plainAttrs_list PySem.F.slot_list_append PySem.F.type_list_append mt_append (pv 1) (pa_cons (pe_tup (pa_cons (pe_op op_add (pv 4) (pv 6)) (pa_cons (pv 3) pa_nil))) pa_nil)))) pss_nil)))))
      (pss_one (ps_ret (pv 1)))))), ?_⟩), hm, FF.kp, hb⟩
  · obtain ⟨_, _, rfl, _⟩ := h
    rfl
  · obtain ⟨a, p, rfl, ⟨L, hp⟩, wf, k⟩ := h
    have hw5 := wf.w5
    refine q_asgL (el_lst ea_nil (by show 0 ≤ 100000; decide)) fun fd1 H1 hfd e1 h1 => ?_
    refine q_newD fun pd H2 hpd e2 h1p => ?_
    have E2 := e1.trans e2
    have hpd0 : H pd = none := fresh_back e1 hpd
    have hfp : fd1 ≠ pd := fun z => by rw [← z, h1] at hpd; cases hpd
    have hlen : (arranged p).length ≤ 59049 := by
      have q := layers_size wf p.weights.length
      exact Nat.le_trans q (Nat.le_trans (Nat.pow_le_pow_right (by decide) hw5) (by decide))
    have h1f : H2 fd1 = some (.lst []) := e2 _ _ h1
    refine q_forArr (ea_cons (ev_var rfl) ea_nil) ⟨L, hp.mono E2⟩ wf fun d ts H4 hd4 e34 hB => ?_
    have nd1 : d ≠ fd1 := fun z => by rw [z, h1f] at hd4; cases hd4
    have nd2 : d ≠ pd := fun z => by rw [z, h1p] at hd4; cases hd4
    refine ⟨fun i σ' H' => ∃ v3 v4 v5 v6 fs kvs, σ' = [some (.ref a), some (.ref fd1), some (.ref pd), v3, v4, v5, v6] ∧ FI p H H4 fd1 pd i (((arranged p).take i).filter (fits p)) fs kvs H', ⟨none, none, none, none, [], [], rfl, ⟨E2.trans e34, fun x o hx _ _ => hx, by rw [List.map_nil]; exact e34 _ _ h1f, Each.nil, e34 _ _ h1p, Nat.le_refl _, fun s _ v hv => by cases hv⟩⟩,
      fun i σ' H' ⟨_, _, _, _, _, _, _, q⟩ => sq_of (q.hx _ _ hB.ls nd1 nd2), ?_, ?_⟩
    · rintro i x σ' H' hi ⟨v3, v4, v5, v6, fs, kvs, rfl, hF⟩
      obtain ⟨t, ht, rfl⟩ := getE_map hi
      obtain ⟨s, hs, l, hl0, hT, hL⟩ := hB.ts.at_ ht
      have hl1 : l ≠ fd1 := fun z => by rw [z, h1f] at hl0; cases hl0
      have hl2 : l ≠ pd := fun z => by rw [z, h1p] at hl0; cases hl0
      have nt1 : t ≠ fd1 := fun z => by rw [z, e34 _ _ h1f] at hT; cases hT
      have nt2 : t ≠ pd := fun z => by rw [z, e34 _ _ h1p] at hT; cases hT
      have hmem := List.mem_of_getElem? hs
      obtain ⟨hlen2, hfair⟩ := hB.fair s hmem
      have hin : i < (arranged p).length := (List.getElem?_eq_some_iff.mp hs).1
      have stp : (arranged p).take (i + 1) = (arranged p).take i ++ [s] := by rw [List.take_add_one, hs]; rfl
      refine g_three (hF.hx _ _ hT nt1 nt2) ?_
      -- what follows once the part is known
      have rest : ∀ H5 kvs5, FI p H H4 fd1 pd (i + 1) (((arranged p).take i).filter (fits p)) fs kvs5 H5 → valV kvs5 (keyB s) = some (oV (partOf p s)) →
          tSeq (tAsg (tDGet (tVar 2) (tVar 5)) (gName 6)) (tIfS (tTest (tOp (fun x y H Q => y = .non ∧ Q (.bl (!decide (x = .non))) H) (tVar 6) (tC .non))) (tDrop (tBM K "list" rAppend (tVar 1) (tCons (tTup (tCons (tOp rAdd (tVar 4) (tVar 6)) (tCons (tVar 3) tNil))) tNil))) tNext)
            { nx := fun σ' H' => ∃ v3 v4 v5 v6 fs kvs, σ' = [some (.ref a), some (.ref fd1), some (.ref pd), v3, v4, v5, v6] ∧ FI p H H4 fd1 pd (i + 1) (((arranged p).take (i + 1)).filter (fits p)) fs kvs H', ct := fun σ' H' => ∃ v3 v4 v5 v6 fs kvs, σ' = [some (.ref a), some (.ref fd1), some (.ref pd), v3, v4, v5, v6] ∧ FI p H H4 fd1 pd (i + 1) (((arranged p).take (i + 1)).filter (fits p)) fs kvs H', bk := tRet (tVar 1) { nx := fun x H' => Q V.non H', rt := Q }, rt := Q }
            [some (.ref a), some (.ref fd1), some (.ref pd), some (.ref l), some (nV (Kp430.relevance p s)), some (nV (bitsOf s)), v6] H5 := by
        intro H5 kvs5 hF5 hv5
        refine q_asg (ev_dget (k := keyB s) (ev_var (by rfl)) (ev_var (by rfl)) hF5.dd hv5) fun H6 e6 => ?_
        have hF6 := hF5.mono e6
        refine s_when (b := fits p s) (et_is (et_test (ev_op (ev_var (by rfl)) ev_c rv_notN)) (by unfold partOf; cases hq : fits p s <;> rfl)) (fun hb H7 e7 => ?_) (fun hb H7 e7 => ?_)
        · have hF7 := hF6.mono e7
          have hpt : partOf p s = some (p.diversity * (Kp430.covered p s).length) := by unfold partOf; rw [hb]; rfl
          rw [hpt]
          have hsz : fs.length < 100000 := by
            have q1 := hF7.ft.1
            have q2 := Nat.le_trans (List.length_filter_le (fits p) ((arranged p).take i)) (List.length_take_le' _ _)
            omega
          refine s_appT2 (x := nV (Kp430.value p s)) hF7.ls (ev_var (by rfl)) (ev_is (ev_op (ev_var (by rfl)) (ev_var (by rfl)) rv_I0) (by show V.int _ = V.int _; congr 1)) (ev_var (by rfl)) (by rw [List.length_map]; exact hsz) fun u H8 hu nu e8 h8 => ⟨_, _, _, _, fs ++ [u], kvs5, rfl, ?_⟩
          have hF8 := hF7.mono e8
          rw [stp, List.filter_append, show [s].filter (fits p) = [s] by simp [hb], show (List.map V.ref fs ++ [V.ref u]) = (fs ++ [u]).map V.ref by rw [List.map_append]; rfl]
          have kee : ∀ x o, x ≠ fd1 → H8 x = some o → upd H8 fd1 (.lst ((fs ++ [u]).map V.ref)) x = some o := fun x o nx q => by rw [upd_ne nx]; exact q
          refine ⟨Ex.mut hF8.ex hfd, fun x o q n1 n2 => kee x o n1 (hF8.hx x o q n1 n2), upd_same, Each.snoc (hF8.ft.imp fun v s' _ _ ⟨m, q1, q2, q3, q4⟩ => ⟨m, q1, q2, kee _ _ (fun z => by rw [z, hF8.ls] at q3; cases q3) q3, kee _ _ q1 q4⟩) ⟨l, hl1, hl2, kee _ _ nu h8, kee _ _ hl1 (hF8.hx _ _ hL hl1 hl2)⟩, kee _ _ (fun z => hfp z.symm) hF8.dd, hF8.dl, hF8.dv⟩
        · refine ⟨_, _, _, _, fs, kvs5, rfl, ?_⟩
          rw [stp, List.filter_append, show [s].filter (fits p) = [] by simp [hb], List.append_nil]
          exact hF6.mono e7
      refine q_when (et_dnotin (k := keyB s) (ev_var (by rfl)) (ev_var (by rfl)) hF.dd) (fun hb H5 e5 => ?_) (fun hb H5 e5 => ?_)
      · have hF5 := hF.mono e5
        have hA : ∀ H6, Ex H5 H6 → Asked K CC CP [.ref a, .ref l] H6 a l p s := fun H6 e6 => ⟨rfl, ⟨L, hp.mono (hF5.ex.trans e6)⟩, wf, sq_of (e6 _ _ (hF5.hx _ _ hL hl1 hl2)), hfair.in_, by omega⟩
        refine s_dput (k := keyB s) hF5.dd (ev_cd (ea_cons (ev_var (by rfl)) (ea_cons (ev_var (by rfl)) ea_nil)) fun H6 e6 => ⟨a, l, p, s, hA H6 e6, rfl⟩) (ev_var (by rfl)) (ev_var (by rfl)) (by have := hF5.dl; omega) fun H6 e6 => ?_
        have hF6 := hF5.mono e6
        refine rest _ (putK kvs (keyB s) (oV (partOf p s))) ?_ (by rw [valV_put, if_pos rfl])
        have kee : ∀ x o, x ≠ pd → H6 x = some o → upd H6 pd (.dK (putK kvs (keyB s) (oV (partOf p s)))) x = some o := fun x o nx q => by rw [upd_ne nx]; exact q
        refine ⟨Ex.mut hF6.ex hpd0, fun x o q n1 n2 => kee x o n2 (hF6.hx x o q n1 n2), kee _ _ hfp hF6.ls, hF6.ft.imp fun v s' _ _ ⟨m, q1, q2, q3, q4⟩ => ⟨m, q1, q2, kee _ _ (fun z => by rw [z, hF6.dd] at q3; cases q3) q3, kee _ _ q2 q4⟩, upd_same, Nat.le_trans (length_putK _ _ _) (Nat.succ_le_succ hF6.dl), fun s' hs' v hv => ?_⟩
        rw [valV_put] at hv
        by_cases z : keyB s' = keyB s
        · rw [if_pos z] at hv
          cases hv
          exact congrArg oV (part_bits hfair.nd (arranged_fair wf hs').1.nd (key_eq.mp z).symm)
        · rw [if_neg z] at hv
          exact hF6.dv s' hs' v hv
      · have hF5 := hF.mono e5
        have hF6 : FI p H H4 fd1 pd (i + 1) (((arranged p).take i).filter (fits p)) fs kvs H5 := ⟨hF5.ex, hF5.hx, hF5.ls, hF5.ft, hF5.dd, Nat.le_succ_of_le hF5.dl, hF5.dv⟩
        refine rest _ kvs hF6 ?_
        have : (valV kvs (keyB s)).isSome = true := by simpa using hb
        obtain ⟨v, hv⟩ := Option.isSome_iff_exists.mp this
        rw [hv, hF5.dv s hmem v hv]
    · rintro σ' H' ⟨v3, v4, v5, v6, fs, kvs, rfl, hF⟩
      have el : (ts.map V.ref).length = (arranged p).length := by rw [List.length_map, hB.ts.1]
      rw [el, List.take_length, arranged_fits wf] at hF
      refine s_ret (ev_var rfl) fun H5 e5 => k fd1 fs H5 (fresh_back (Ex.refl H) hfd) (hF.ex.trans e5) ⟨e5 _ _ hF.ls, hF.ft.imp fun u s _ _ ⟨l, _, _, q1, q2⟩ => ⟨l, e5 _ _ q1, e5 _ _ q2⟩⟩
end
end Ps
end

section
set_option maxRecDepth 100000
set_option maxHeartbeats 1000000
namespace Ps
open Kp430
/-! The best slates by a stable sort; what a page without some constraints still has. -/
def insA (p : Page) (a : Slate) : List Slate → List Slate
  | [] => [a]
  | b :: r => if value p b ≤ value p a then a :: b :: r else b :: insA p a r
theorem go_insA (p : Page) (s a : Slate) : ∀ l : List Slate, insertSlate.go p s (insA p a l) = insA p a (insertSlate.go p s l)
  | [] => by
    show (if value p a < value p s then [s, a] else [a, s]) = if value p s ≤ value p a then [a, s] else [s, a]
    by_cases h : value p a < value p s
    · rw [if_pos h, if_neg (by omega)]
    · rw [if_neg h, if_pos (by omega)]
  | b :: r => by
    show insertSlate.go p s (if value p b ≤ value p a then a :: b :: r else b :: insA p a r) = insA p a (if value p b < value p s then s :: b :: r else b :: insertSlate.go p s r)
    by_cases h : value p b ≤ value p a
    · rw [if_pos h]
      show (if value p a < value p s then s :: a :: b :: r else a :: (if value p b < value p s then s :: b :: r else b :: insertSlate.go p s r)) = _
      by_cases h1 : value p a < value p s
      · rw [if_pos h1, if_pos (show value p b < value p s by omega)]
        show _ = if value p s ≤ value p a then a :: s :: b :: r else s :: (if value p b ≤ value p a then a :: b :: r else b :: insA p a r)
        rw [if_neg (by omega), if_pos h]
      · rw [if_neg h1]
        by_cases h2 : value p b < value p s
        · rw [if_pos h2]
          show _ = if value p s ≤ value p a then a :: s :: b :: r else s :: _
          rw [if_pos (by omega)]
        · rw [if_neg h2]
          show _ = if value p b ≤ value p a then a :: b :: insertSlate.go p s r else b :: _
          rw [if_pos h]
    · rw [if_neg h]
      show (if value p b < value p s then s :: b :: insA p a r else b :: insertSlate.go p s (insA p a r)) = _
      by_cases h2 : value p b < value p s
      · rw [if_pos h2, if_pos h2]
        show _ = if value p s ≤ value p a then a :: s :: b :: r else s :: (if value p b ≤ value p a then a :: b :: r else b :: insA p a r)
        rw [if_neg (by omega), if_neg h]
      · rw [if_neg h2, if_neg h2]
        show _ = if value p b ≤ value p a then a :: b :: insertSlate.go p s r else b :: insA p a (insertSlate.go p s r)
        rw [if_neg h, go_insA p s a r]
theorem fold_insA (p : Page) (a : Slate) : ∀ (l acc : List Slate), l.foldl (fun acc s => insertSlate.go p s acc) (insA p a acc) = insA p a (l.foldl (fun acc s => insertSlate.go p s acc) acc)
  | [], acc => rfl
  | s :: l, acc => by rw [List.foldl_cons, List.foldl_cons, go_insA, fold_insA p a l]
theorem ranked_cons (p : Page) (a : Slate) (l : List Slate) : ranked p (a :: l) = insA p a (ranked p l) := fold_insA p a l []
def leS (p : Page) (a b : Slate) : Bool := decide (-((value p a : Nat) : Int) ≤ -((value p b : Nat) : Int))
theorem leS_trans (p : Page) (a b c : Slate) (h1 : leS p a b = true) (h2 : leS p b c = true) : leS p a c = true := by
  unfold leS at *
  rw [decide_eq_true_eq] at *
  omega
theorem leS_total (p : Page) (a b : Slate) : (leS p a b || leS p b a) = true := by
  unfold leS
  rw [Bool.or_eq_true, decide_eq_true_eq, decide_eq_true_eq]
  omega
theorem insA_at (p : Page) (a : Slate) (l2 : List Slate) (h2 : ∀ b ∈ l2, leS p a b = true) : ∀ l1 : List Slate, (∀ b ∈ l1, (!leS p a b) = true) → insA p a (l1 ++ l2) = l1 ++ a :: l2
  | [], _ => by
    cases l2 with
    | nil => rfl
    | cons b r =>
      show (if value p b ≤ value p a then a :: b :: r else b :: insA p a r) = a :: b :: r
      have := h2 b (List.mem_cons_self ..)
      unfold leS at this
      rw [decide_eq_true_eq] at this
      rw [if_pos (by omega)]
  | b :: l1, h1 => by
    show (if value p b ≤ value p a then a :: b :: (l1 ++ l2) else b :: insA p a (l1 ++ l2)) = b :: (l1 ++ a :: l2)
    have := h1 b (List.mem_cons_self ..)
    unfold leS at this
    rw [Bool.not_eq_true', decide_eq_false_iff_not] at this
    rw [if_neg (by omega), insA_at p a l2 h2 l1 fun c hc => h1 c (List.mem_cons_of_mem _ hc)]
theorem ranked_sort (p : Page) : ∀ l : List Slate, ranked p l = l.mergeSort (leS p)
  | [] => by rw [List.mergeSort_nil]; rfl
  | a :: l => by
    rw [ranked_cons, ranked_sort p l]
    obtain ⟨l1, l2, e1, e2, h1⟩ := List.mergeSort_cons (le := leS p) (leS_trans p) (leS_total p) a l
    have hs := List.pairwise_mergeSort (le := leS p) (leS_trans p) (leS_total p) (a :: l)
    rw [e1] at hs
    have h2 : ∀ b ∈ l2, leS p a b = true := (List.pairwise_cons.mp (List.pairwise_append.mp hs).2.1).1
    rw [e1, e2, insA_at p a l2 h2 l1 h1]
/-! ### how many slates -/
theorem full_len8 (p : Page) (hc : p.candidates.length ≤ 9) : ∀ (n : Nat) (s : Slate), (∃ c ∈ s, c < p.candidates.length) → (full p n s).length ≤ 8 ^ n
  | 0, s, _ => Nat.le_refl 1
  | n + 1, s, ⟨c, hs, hcl⟩ => by
    have key : ∀ l : List Nat, (l.flatMap fun c => full p n (s ++ [c])).length ≤ l.length * 8 ^ n := by
      intro l
      induction l with
      | nil => simp
      | cons a l ih =>
        rw [List.flatMap_cons, List.length_append, List.length_cons, Nat.succ_mul]
        have := full_len8 p hc n (s ++ [a]) ⟨c, List.mem_append_left _ hs, hcl⟩
        omega
    refine Nat.le_trans (key _) ?_
    have : ((Kp430.all p).filter fun c => !s.contains c).length ≤ 8 := by
      have h1 : ((Kp430.all p).filter fun c => !s.contains c).length < (Kp430.all p).length := by
        rw [List.length_filter_lt_length_iff_exists]
        exact ⟨c, List.mem_range.mpr hcl, by simp [hs]⟩
      unfold Kp430.all at h1 ⊢
      rw [List.length_range] at h1
      omega
    rw [Nat.pow_succ, Nat.mul_comm]
    exact Nat.mul_le_mul_left _ this
theorem full_few (p : Page) (hc : p.candidates.length ≤ 9) (n : Nat) : (full p (n + 1) []).length ≤ 9 * 8 ^ n := by
  have key : ∀ l : List Nat, (∀ c ∈ l, c < p.candidates.length) → (l.flatMap fun c => full p n ([] ++ [c])).length ≤ l.length * 8 ^ n := by
    intro l
    induction l with
    | nil => intro _; simp
    | cons a l ih =>
      intro h
      rw [List.flatMap_cons, List.length_append, List.length_cons, Nat.succ_mul]
      have h1 := full_len8 p hc n ([] ++ [a]) ⟨a, List.mem_append_right _ (List.mem_cons_self ..), h a (List.mem_cons_self ..)⟩
      have h2 := ih fun c hc => h c (List.mem_cons_of_mem _ hc)
      omega
  have h0 := key ((Kp430.all p).filter fun c => !([] : List Nat).contains c) fun c hc => List.mem_range.mp (List.mem_filter.mp hc).1
  refine Nat.le_trans h0 (Nat.mul_le_mul_right _ ?_)
  exact Nat.le_trans (List.length_filter_le _ _) (by unfold Kp430.all; rw [List.length_range]; exact hc)
theorem feasible_few {p : Page} (w : Wf p) : (feasible p).length ≤ 40000 := by
  rw [feasible_full]
  refine Nat.le_trans (List.length_filter_le _ _) ?_
  have h5 := w.w5
  cases h : positions p with
  | zero => exact Nat.le_trans (Nat.le_refl 1) (by decide)
  | succ n =>
    refine Nat.le_trans (full_few p w.cn n) (Nat.le_trans (Nat.mul_le_mul_left _ (Nat.pow_le_pow_right (by decide) (show n ≤ 4 by unfold positions at h; omega))) (by decide))
/-! ### the greatest value -/
theorem cast_max : ∀ (l : List Nat) (m : Nat), (l.map fun n : Nat => (n : Int)).foldl max (m : Int) = ((l.foldl max m : Nat) : Int)
  | [], m => rfl
  | n :: l, m => by
    rw [List.map_cons, List.foldl_cons, List.foldl_cons, ← cast_max l]
    congr 1
    omega
theorem best_none {p : Page} (h : feasible p = []) : bestValue p = none := by rw [bestValue_more, h]; rfl
theorem best_some {p : Page} {s : Slate} {l : List Slate} (h : feasible p = s :: l) : bestValue p = some ((l.map (value p)).foldl max (value p s)) := by
  rw [bestValue_more, h, List.map_cons, List.foldl_cons]
  exact more_max _ _
theorem fold_max_mem : ∀ (l : List Nat) (m : Nat), l.foldl max m ∈ m :: l
  | [], m => by simp
  | n :: l, m => by
    rw [List.foldl_cons]
    rcases List.mem_cons.mp (fold_max_mem l (max m n)) with h | h
    · rw [h]
      by_cases q : m ≤ n
      · rw [Nat.max_eq_right q]; simp
      · rw [Nat.max_eq_left (by omega)]; simp
    · exact List.mem_cons_of_mem _ (List.mem_cons_of_mem _ h)
theorem fold_max_le : ∀ (l : List Nat) (m x : Nat), x ∈ m :: l → x ≤ l.foldl max m
  | [], m, x, h => by rw [List.mem_singleton.mp h]; exact Nat.le_refl _
  | n :: l, m, x, h => by
    rw [List.foldl_cons]
    have h0 := fold_max_le l (max m n) (max m n) (List.mem_cons_self ..)
    rcases List.mem_cons.mp h with rfl | h
    · omega
    · rcases List.mem_cons.mp h with rfl | h
      · omega
      · exact fold_max_le l _ x (List.mem_cons_of_mem _ h)
theorem best_ge {p : Page} {v : Nat} (h : bestValue p = some v) : (∃ s ∈ feasible p, value p s = v) ∧ ∀ s ∈ feasible p, value p s ≤ v := by
  cases e : feasible p with
  | nil => rw [best_none e] at h; cases h
  | cons s l =>
    rw [best_some e] at h
    cases h
    refine ⟨?_, fun t ht => ?_⟩
    · have := fold_max_mem (l.map (value p)) (value p s)
      rw [← List.map_cons] at this
      obtain ⟨t, ht, q⟩ := List.mem_map.mp this
      exact ⟨t, ht, q⟩
    · exact fold_max_le _ _ _ (by rw [← List.map_cons]; exact List.mem_map_of_mem ht)
/-- a slate is among the feasible ones -/
theorem mem_full {p : Page} : ∀ (m s : Slate), (∀ c ∈ m, c < p.candidates.length) → (s ++ m).Nodup → s ++ m ∈ full p m.length s
  | [], s, _, _ => by rw [List.append_nil]; exact List.mem_singleton.mpr rfl
  | c :: m, s, h1, h2 => by
    show s ++ c :: m ∈ ((Kp430.all p).filter fun c => !s.contains c).flatMap fun c => full p m.length (s ++ [c])
    have e : s ++ c :: m = (s ++ [c]) ++ m := by simp
    have hc : c ∉ s := fun hs => by
      have := (List.nodup_append.mp h2).2.2 c hs c (List.mem_cons_self ..)
      exact this rfl
    refine List.mem_flatMap.mpr ⟨c, List.mem_filter.mpr ⟨List.mem_range.mpr (h1 c (List.mem_cons_self ..)), by simp [hc]⟩, ?_⟩
    rw [e]
    exact mem_full m (s ++ [c]) (fun d hd => h1 d (List.mem_cons_of_mem _ hd)) (by rw [← e]; exact h2)
theorem feasible_iff {p : Page} {s : Slate} : s ∈ feasible p ↔ isFeasible p s = true := by
  refine ⟨feasible_mem, fun h => ?_⟩
  obtain ⟨h1, h2, _⟩ := feas_iff.mp h
  rw [feasible_full]
  refine List.mem_filter.mpr ⟨?_, h⟩
  have := mem_full (p := p) s [] h2.in_ (by rw [List.nil_append]; exact h2.nd)
  rw [List.nil_append, h1] at this
  exact this
end Ps
end

section
set_option maxRecDepth 100000
set_option maxHeartbeats 2000000
namespace Ps
open PySem PySem.Spec PyProof.Rows L2 Evl
open Kp430 (Page Candidate Quota)
/-! A page without some constraints. -/
/-- the program's own page without the constraints of a kind -/
def relaxP (p : Page) (kind : Nat) : Page where
  weights := p.weights
  candidates := p.candidates
  quotas := if !(kind == 0 || kind == 5) then p.quotas else List.replicate Kp430.groupCount ⟨0, Kp430.maxPositions⟩
  creatorLimit := if !(kind == 1 || kind == 5) then p.creatorLimit else Kp430.maxPositions
  spacing := if !(kind == 1 || kind == 5) then p.spacing else 1
  freshAge := if !(kind == 2 || kind == 5) then p.freshAge else 0
  leastFresh := if !(kind == 2 || kind == 5) then p.leastFresh else 0
  diversity := p.diversity
  forbidden := if !(kind == 3 || kind == 5) then p.forbidden else []
  pins := if !(kind == 4 || kind == 5) then p.pins else List.replicate p.weights.length none
theorem relaxP_is (p : Page) {k : Nat} (h : k ≤ 5) : relaxP p k = { Kp430.relaxed p k with freshAge := (relaxP p k).freshAge } := by
  have : k = 0 ∨ k = 1 ∨ k = 2 ∨ k = 3 ∨ k = 4 ∨ k = 5 := by omega
  rcases this with rfl | rfl | rfl | rfl | rfl | rfl <;> rfl
theorem relaxed_wf {p : Page} (w : Wf p) (k : Nat) : Wf (relaxP p k) := by
  refine { w1 := w.w1, w5 := w.w5, wr := w.wr, wd := w.wd, cn := w.cn, cs := w.cs, dv := w.dv, qn := ?_, qs := ?_, lm := ?_, sp := ?_, fa := ?_, lf := ?_, fb := ?_, fd := ?_, pn := ?_, pc := ?_, pd := ?_ } <;> (simp only [relaxP]; split)
  · exact w.qn
  · rfl
  · exact w.qs
  · intro q hq
    rw [List.eq_of_mem_replicate hq]
    simp [Kp430.maxPositions]
  · exact w.lm
  · exact ⟨by decide, by decide⟩
  · exact w.sp
  · exact ⟨by decide, by decide⟩
  · exact w.fa
  · decide
  · exact w.lf
  · exact Nat.zero_le _
  · exact w.fb
  · intro x hx; cases hx
  · exact w.fd
  · exact List.nodup_nil
  · exact w.pn
  · exact List.length_replicate
  · exact w.pc
  · intro c hc
    have := List.eq_of_mem_replicate hc
    cases this
  · exact w.pd
  · intro i j c h
    have := List.eq_of_mem_replicate (List.mem_of_getElem? h)
    cases this
section
variable {P : Program} {w : World} {K : PySem.W.Frag} {mg : Str → Option Value} {base : Heap} {CC CP CS : Addr} {σ : L2.St} {H : Hp} {D : Ends} {a : Addr} {L : Lay} {p : Page} {tp tv te tw : TE} {t : TT} {tz tu : TS}
theorem pF0_put_candidates {w c q : Addr} {lm sp fa fl dv : Nat} {f n c' : Addr} : putF ("candidates" : Str) (.ref c') (pF0 w c q lm sp fa fl dv f n) = pF0 w c' q lm sp fa fl dv f n := (pt_past (by decide +kernel)).trans (congrArg _ (pt_here))
theorem pF0_put_quotas {w c q : Addr} {lm sp fa fl dv : Nat} {f n q' : Addr} : putF ("quotas" : Str) (.ref q') (pF0 w c q lm sp fa fl dv f n) = pF0 w c q' lm sp fa fl dv f n := (pt_past (by decide +kernel)).trans (congrArg _ ((pt_past (by decide +kernel)).trans (congrArg _ (pt_here))))
theorem pF0_put_forbidden {w c q : Addr} {lm sp fa fl dv : Nat} {f n f' : Addr} : putF ("forbidden" : Str) (.ref f') (pF0 w c q lm sp fa fl dv f n) = pF0 w c q lm sp fa fl dv f' n := (pt_past (by decide +kernel)).trans (congrArg _ ((pt_past (by decide +kernel)).trans (congrArg _ ((pt_past (by decide +kernel)).trans (congrArg _ ((pt_past (by decide +kernel)).trans (congrArg _ ((pt_past (by decide +kernel)).trans (congrArg _ ((pt_past (by decide +kernel)).trans (congrArg _ ((pt_past (by decide +kernel)).trans (congrArg _ ((pt_past (by decide +kernel)).trans (congrArg _ (pt_here))))))))))))))))
theorem pF0_put_pins {w c q : Addr} {lm sp fa fl dv : Nat} {f n n' : Addr} : putF ("pins" : Str) (.ref n') (pF0 w c q lm sp fa fl dv f n) = pF0 w c q lm sp fa fl dv f n' := (pt_past (by decide +kernel)).trans (congrArg _ ((pt_past (by decide +kernel)).trans (congrArg _ ((pt_past (by decide +kernel)).trans (congrArg _ ((pt_past (by decide +kernel)).trans (congrArg _ ((pt_past (by decide +kernel)).trans (congrArg _ ((pt_past (by decide +kernel)).trans (congrArg _ ((pt_past (by decide +kernel)).trans (congrArg _ ((pt_past (by decide +kernel)).trans (congrArg _ ((pt_past (by decide +kernel)).trans (congrArg _ (pt_here))))))))))))))))))
/-- if t: x.f = e -/
theorem q_ifFld {x C dx : Addr} {fs : List (Str × V)} {f : Str} {v : V} {b : Bool} (h : EvT t σ H b) (hv : ∀ H1, Ex H H1 → Ev tv σ H1 v) (ho : ∀ H1, Ex H H1 → Ev tp σ H1 (.ref x)) (hx : H x = some (.ins C dx fs)) (hc : Cls K C) (hn : NoAttr K C f) (hl : fs.length < 1000)
    (k : ∀ H1, But x H H1 → H1 x = some (.ins C dx (if b = true then putF f v fs else fs)) → tz D σ H1) : tSeq (tIfS t (sFld K tp tv f) tNext) tz D σ H := by
  refine q_when h (fun hb H1 e1 => ?_) (fun hb H1 e1 => ?_)
  · subst hb
    exact s_fld (hv H1 e1) (ho H1 e1) (e1 _ _ hx) hc hn hl fun H2 e2 => k _ (But.of (e1.trans e2)).upd upd_same
  · subst hb
    exact k H1 (But.of e1) (e1 _ _ hx)
/-- if t: x.f = e; x.g = e' -/
theorem q_ifFld2 {x C dx : Addr} {fs : List (Str × V)} {f g : Str} {v u : V} {b : Bool} (h : EvT t σ H b) (hv : ∀ H1, But x H H1 → Ev tv σ H1 v) (hw : ∀ H1, But x H H1 → Ev tw σ H1 u) (ho : ∀ H1, Ev tp σ H1 (.ref x)) (hx : H x = some (.ins C dx fs)) (hc : Cls K C) (hn : NoAttr K C f) (hn2 : NoAttr K C g) (hl : fs.length < 900)
    (k : ∀ H1, But x H H1 → H1 x = some (.ins C dx (if b = true then putF g u (putF f v fs) else fs)) → tz D σ H1) : tSeq (tIfS t (tSeq (sFld K tp tv f) (sFld K tp tw g)) tNext) tz D σ H := by
  refine q_when h (fun hb H1 e1 => ?_) (fun hb H1 e1 => ?_)
  · subst hb
    refine q_fld (hv H1 (But.of e1)) (ho H1) (e1 _ _ hx) hc hn (by omega) fun H2 e2 => ?_
    have b2 := (But.of (x := x) (e1.trans e2)).upd (o := .ins C dx (putF f v fs))
    refine s_fld (hw _ b2) (ho _) upd_same hc hn2 (by have := putF_len f v fs; omega) fun H3 e3 => k _ (b2.trans (But.of e3)).upd upd_same
  · subst hb
    exact k H1 (But.of e1) (e1 _ _ hx)
/-- i = Page(weights) -/
theorem q_newPg {i : Nat} {ta : TA} {l : Addr} {ns : List Nat} (ha : EvA ta σ H [.ref l]) (hl : H l = some (.lst (ns.map nV))) (h12 : ns.length ≤ 12) (k : ∀ x L H2, H x = none → Ex H H2 → PageL CC CP H2 x L (page0 ns) → L.aw = l → L.cs = [] → tz D (σ.set i (some (.ref x))) H2) :
    tSeq (tAsg (tMake CP (spPInit CC CP) [] E0 ta) (gName i)) tz D σ H := ha H (Ex.refl H) _ fun H1 e1 => fun x dx nx nd ne => by
  have hl1 := e1 _ _ hl
  refine ⟨x, dx, l, ns, rfl, upd_same, by rw [upd_ne (ne_of_none hl1 nx), upd_ne (ne_of_none hl1 nd)]; exact hl1, h12, fun H2 Ln hpn haw hcs hnone hnd hbut => ⟨rfl, ?_⟩⟩
  have e12 : Ex H1 H2 := fun b o q => hbut b o (by rw [upd_ne (ne_of_none q nx), upd_ne (ne_of_none q nd)]; exact q) (ne_of_none q nx)
  exact k x Ln H2 (fresh_back e1 nx) (e1.trans e12) hpn haw hcs
theorem but_ex {x : Addr} {H0 H1 : Hp} (e : Ex H0 H) (hx : H0 x = none) (b : But x H H1) : Ex H0 H1 := fun c o h => b c o (e c o h) (fun z => by rw [z, hx] at h; cases h)
theorem but_exI {x : Addr} {H0 H1 : Hp} (hx : H0 x = none) (b : But x H0 H1) : Ex H0 H1 := fun c o h => b c o h (fun z => by rw [z, hx] at h; cases h)
def spRelax (CC CP : Addr) : Sp := fun vs H Q _ => ∃ a p k, vs = [.ref a, nV k] ∧ PageAt CC CP H a p ∧ Wf p ∧ ∀ x H', Ex H H' → PageAt CC CP H' x (relaxP p k) → Q (.ref x) H'
theorem et_kind {k n : Nat} {ty : TE} (h : Ev ty σ H (nV k)) : EvT (tTest (tOp (rIn K true) ty (tTup (tCons (tC (nV n)) (tCons (tC (.int 5)) tNil))))) σ H (!(k == n || k == 5)) :=
  et_test (ev_is (ev_niU h (eu_tup (ea_cons ev_c (ea_cons ev_c ea_nil)) (by show 2 ≤ 100000; decide)) rfl rfl) (by
    congr 2
    show (((n : Int) == (k : Int)) || ((5 : Int) == (k : Int) || false)) = (k == n || k == 5)
    rw [Bool.or_false]
    congr 1
    · rw [Bool.eq_iff_iff, beq_iff_eq, beq_iff_eq]; omega
    · rw [Bool.eq_iff_iff, beq_iff_eq, beq_iff_eq]; omega))
abbrev s_Page_relaxed : Stmt := inClass (topS 97) 6
theorem sc_Page_relaxed : FnScope ["self", "kind", "page"] ["self", "kind"] (defScope s_Page_relaxed) := ⟨rfl, rfl, rfl, by decide +kernel, rfl, by decide +kernel, by decide +kernel⟩
theorem ok_Page_relaxed (T : Txt K mg CC CP CS) (F : MFunAt K CP "relaxed" "Page.relaxed" s_Page_relaxed ["self", "kind"]) (D_Page : MakeAt P w K mg base 1 CP ["self", "weights"] (spPInit CC CP)) : MethAt P w K mg base 3 CP "relaxed" ["self", "kind"] (spRelax CC CP) := by
  obtain ⟨f, fd, FF, hm, hb⟩ := F.ex
  refine ⟨f, fd, FF.ok sc_Page_relaxed (fun vs H Q E h => ?_) (fun cdv A outer s H vs Q E hr h => ⟨_, (pss_cons (ps_set (i := 2) sc_Page_relaxed.nd rfl (Or.inl rfl) (pe_mk D_Page T.gPage (hr.mono (by decide)) pass0 (pa_cons (fldK (K := K) (pv 0)) pa_nil)))
      (pss_cons (sfldK (K := K) (pv 2) (fldK (K := K) (pv 0)))
      (pss_cons (sfldK (K := K) (pv 2) (fldK (K := K) (pv 0)))
      (pss_cons (ps_if (pt_cmpR (notInK (K := K)) (pv 1) (pe_tup (pa_cons pe_int (pa_cons pe_int pa_nil))) (by rfl)) (pss_one (sfldK (K := K) (pv 2) (fldK (K := K) (pv 0)))) pss_nil)
      (pss_cons (ps_if (pt_cmpR (notInK (K := K)) (pv 1) (pe_tup (pa_cons pe_int (pa_cons pe_int pa_nil))) (by rfl)) (pss_cons (sfldK (K := K) (pv 2) (fldK (K := K) (pv 0)))
      (pss_one (sfldK (K := K) (pv 2) (fldK (K := K) (pv 0))))) pss_nil)
      (pss_cons (ps_if (pt_cmpR (notInK (K := K)) (pv 1) (pe_tup (pa_cons pe_int (pa_cons pe_int pa_nil))) (by rfl)) (pss_cons (sfldK (K := K) (pv 2) (fldK (K := K) (pv 0)))
      (pss_one (sfldK (K := K) (pv 2) (fldK (K := K) (pv 0))))) pss_nil)
      (pss_cons (ps_if (pt_cmpR (notInK (K := K)) (pv 1) (pe_tup (pa_cons pe_int (pa_cons pe_int pa_nil))) (by rfl)) (pss_one (sfldK (K := K) (pv 2) (fldK (K := K) (pv 0)))) pss_nil)
      (pss_cons (ps_if (pt_cmpR (notInK (K := K)) (pv 1) (pe_tup (pa_cons pe_int (pa_cons pe_int pa_nil))) (by rfl)) (pss_one (sfldK (K := K) (pv 2) (fldK (K := K) (pv 0)))) pss_nil)
      (pss_one (ps_ret (pv 2))))))))))), ?_⟩), hm, hb⟩
  · obtain ⟨_, _, _, rfl, _⟩ := h
    rfl
  · obtain ⟨a, p, kk, rfl, ⟨L, hp⟩, wf, q⟩ := h
    have hw12 : p.weights.length ≤ 12 := Nat.le_trans wf.w5 (by decide)
    refine q_newPg (ea_cons (pg_weights T hp (ev_var rfl)) ea_nil) hp.hw hw12 fun x Ln H2 hx0 E2 hpn haw hcs => ?_
    have pg : ∀ {H'}, But x H2 H' → PageL CC CP H' a L p := fun b => hp.mono (but_ex E2 hx0 b)
    refine q_fld (x := x) (fs := pF Ln (page0 p.weights)) (pg_candidates T (hp.mono E2) (ev_var rfl)) (ev_var rfl) hpn.ins T.cPage T.nP_candidates (by show 10 < 1000; decide) fun H3 e3 => ?_
    rw [pF0_put_candidates]
    have b3 := (But.of (x := x) e3).upd (o := .ins CP Ln.dx (pF0 Ln.aw L.ac Ln.aq 5 1 0 0 0 Ln.af Ln.ap))
    refine q_fld (x := x) (pg_diversity T (pg b3) (ev_var rfl)) (ev_var rfl) upd_same T.cPage T.nP_diversity (by show 10 < 1000; decide) fun H4 e4 => ?_
    rw [pF0_put_diversity]
    have b4 := (b3.trans (But.of e4)).upd (o := .ins CP Ln.dx (pF0 Ln.aw L.ac Ln.aq 5 1 0 0 p.diversity Ln.af Ln.ap))
    -- quotas
    refine q_ifFld (x := x) (et_kind (ev_var rfl)) (fun H' e => pg_quotas T (pg (b4.trans (But.of e))) (ev_var rfl)) (fun _ _ => ev_var rfl) upd_same T.cPage T.nP_quotas (by show 10 < 1000; decide) fun H5 b5 h5 => ?_
    rw [pF0_put_quotas] at h5
    have h5 : H5 x = some (.ins CP Ln.dx (pF0 Ln.aw L.ac (if !(kk == 0 || kk == 5) then L.aq else Ln.aq) 5 1 0 0 p.diversity Ln.af Ln.ap)) := by rw [h5]; cases (kk == 0 || kk == 5) <;> rfl
    have b5 := b4.trans b5
    -- limit, spacing
    refine q_ifFld2 (x := x) (et_kind (ev_var rfl)) (fun H' e => pg_limit T (pg (b5.trans e)) (ev_var rfl)) (fun H' e => pg_spacing T (pg (b5.trans e)) (ev_var rfl)) (fun _ => ev_var rfl) h5 T.cPage T.nP_limit T.nP_spacing (by show 10 < 900; decide) fun H6 b6 h6 => ?_
    rw [pF0_put_limit, pF0_put_spacing] at h6
    have h6 : H6 x = some (.ins CP Ln.dx (pF0 Ln.aw L.ac (if !(kk == 0 || kk == 5) then L.aq else Ln.aq) (if !(kk == 1 || kk == 5) then p.creatorLimit else 5) (if !(kk == 1 || kk == 5) then p.spacing else 1) 0 0 p.diversity Ln.af Ln.ap)) := by rw [h6]; cases (kk == 1 || kk == 5) <;> rfl
    have b6 := b5.trans b6
    -- freshness
    refine q_ifFld2 (x := x) (et_kind (ev_var rfl)) (fun H' e => pg_fresh_age T (pg (b6.trans e)) (ev_var rfl)) (fun H' e => pg_fresh_least T (pg (b6.trans e)) (ev_var rfl)) (fun _ => ev_var rfl) h6 T.cPage T.nP_fresh_age T.nP_fresh_least (by show 10 < 900; decide) fun H7 b7 h7 => ?_
    rw [pF0_put_fresh_age, pF0_put_fresh_least] at h7
    have h7 : H7 x = some (.ins CP Ln.dx (pF0 Ln.aw L.ac (if !(kk == 0 || kk == 5) then L.aq else Ln.aq) (if !(kk == 1 || kk == 5) then p.creatorLimit else 5) (if !(kk == 1 || kk == 5) then p.spacing else 1) (if !(kk == 2 || kk == 5) then p.freshAge else 0) (if !(kk == 2 || kk == 5) then p.leastFresh else 0) p.diversity Ln.af Ln.ap)) := by rw [h7]; cases (kk == 2 || kk == 5) <;> rfl
    have b7 := b6.trans b7
    -- forbidden
    refine q_ifFld (x := x) (et_kind (ev_var rfl)) (fun H' e => pg_forbidden T (pg (b7.trans (But.of e))) (ev_var rfl)) (fun _ _ => ev_var rfl) h7 T.cPage T.nP_forbidden (by show 10 < 1000; decide) fun H8 b8 h8 => ?_
    rw [pF0_put_forbidden] at h8
    have h8 : H8 x = some (.ins CP Ln.dx (pF0 Ln.aw L.ac (if !(kk == 0 || kk == 5) then L.aq else Ln.aq) (if !(kk == 1 || kk == 5) then p.creatorLimit else 5) (if !(kk == 1 || kk == 5) then p.spacing else 1) (if !(kk == 2 || kk == 5) then p.freshAge else 0) (if !(kk == 2 || kk == 5) then p.leastFresh else 0) p.diversity (if !(kk == 3 || kk == 5) then L.af else Ln.af) Ln.ap)) := by rw [h8]; cases (kk == 3 || kk == 5) <;> rfl
    have b8 := b7.trans b8
    -- pins
    refine q_ifFld (x := x) (et_kind (ev_var rfl)) (fun H' e => pg_pins T (pg (b8.trans (But.of e))) (ev_var rfl)) (fun _ _ => ev_var rfl) h8 T.cPage T.nP_pins (by show 10 < 1000; decide) fun H9 b9 h9 => ?_
    rw [pF0_put_pins] at h9
    have h9 : H9 x = some (.ins CP Ln.dx (pF0 Ln.aw L.ac (if !(kk == 0 || kk == 5) then L.aq else Ln.aq) (if !(kk == 1 || kk == 5) then p.creatorLimit else 5) (if !(kk == 1 || kk == 5) then p.spacing else 1) (if !(kk == 2 || kk == 5) then p.freshAge else 0) (if !(kk == 2 || kk == 5) then p.leastFresh else 0) p.diversity (if !(kk == 3 || kk == 5) then L.af else Ln.af) (if !(kk == 4 || kk == 5) then L.ap else Ln.ap))) := by rw [h9]; cases (kk == 4 || kk == 5) <;> rfl
    have b9 := b8.trans b9
    refine s_ret (ev_var rfl) fun H10 e10 => ?_
    have b10 := b9.trans (But.of (x := x) e10)
    have h10 := e10 _ _ h9
    have E10 := but_ex E2 hx0 b10
    refine q x H10 E10 ?_
    have hx2 := hpn.ins
    -- what the new page brought stands
    have nn : ∀ {b : Addr} {xs : List V}, H2 b = some (.lst xs) → H10 b = some (.lst xs) := fun {b xs} h => b10 _ _ h (ne_of h hx2 (by intro z; cases z))
    have nt : ∀ {b : Addr} {xs : List V}, H2 b = some (.tup xs) → H10 b = some (.tup xs) := fun {b xs} h => b10 _ _ h (ne_of h hx2 (by intro z; cases z))
    have hp10 := hp.mono E10
    refine ⟨⟨Ln.dx, Ln.aw, L.ac, if !(kk == 0 || kk == 5) then L.aq else Ln.aq, if !(kk == 3 || kk == 5) then L.af else Ln.af, if !(kk == 4 || kk == 5) then L.ap else Ln.ap, L.cs, if !(kk == 0 || kk == 5) then L.qs else Ln.qs, if !(kk == 3 || kk == 5) then L.fs else Ln.fs⟩, h10, nn hpn.hw, hp10.hc, hp10.hcl, hp10.hca, ?_, ?_, ?_, ?_, ?_, ?_, ?_⟩
    · simp only [relaxP]
      split
      · exact hp10.hq
      · exact nn hpn.hq
    · simp only [relaxP]
      split
      · exact hp10.hql
      · exact hpn.hql
    · simp only [relaxP]
      split
      · exact hp10.hqa
      · exact fun i q k h1 h2 => nt (hpn.hqa i q k h1 h2)
    · simp only [relaxP]
      split
      · exact hp10.hf
      · exact nn hpn.hf
    · simp only [relaxP]
      split
      · exact hp10.hfl
      · exact hpn.hfl
    · simp only [relaxP]
      split
      · exact hp10.hfa
      · exact fun i q k h1 h2 => nt (hpn.hfa i q k h1 h2)
    · simp only [relaxP]
      split
      · exact hp10.hp
      · exact nn hpn.hp
end
end Ps
end

section
set_option maxRecDepth 100000
set_option maxHeartbeats 1000000
namespace Ps
open Kp430
/-! What a page without the constraints of a kind lets through. -/
theorem free_at (g : Nat) : (List.replicate groupCount (⟨0, maxPositions⟩ : Quota)).getD g ⟨0, maxPositions⟩ = ⟨0, maxPositions⟩ := by
  rw [List.getD_eq_getElem?_getD, List.getElem?_replicate]
  split <;> rfl
theorem relax_many {p : Page} {s : Slate} {k : Nat} (hl : s.length ≤ maxPositions) (h : (manyViolation p s).isNone = true) : (manyViolation (relaxP p k) s).isNone = true := by
  unfold manyViolation at *
  rw [none_find] at *
  intro g hg
  by_cases hk : (k == 0 || k == 5) = true
  · have e : quotaOf (relaxP p k) g = ⟨0, maxPositions⟩ := by
      unfold quotaOf relaxP
      simp only [hk]
      exact free_at g
    rw [e]
    have := List.countP_le_length (p := fun c => (at_ (relaxP p k) c).group == g) (l := s)
    refine decide_eq_false ?_
    show ¬ maxPositions < s.countP fun c => (at_ (relaxP p k) c).group == g
    omega
  · have e : quotaOf (relaxP p k) g = quotaOf p g := by
      unfold quotaOf relaxP
      simp only [hk]
      rfl
    rw [e]
    exact h g hg
theorem relax_few {p : Page} {s : Slate} {k : Nat} (h : (fewViolation p s).isNone = true) : (fewViolation (relaxP p k) s).isNone = true := by
  unfold fewViolation at *
  rw [none_find] at *
  intro g hg
  by_cases hk : (k == 0 || k == 5) = true
  · have e : quotaOf (relaxP p k) g = ⟨0, maxPositions⟩ := by
      unfold quotaOf relaxP
      simp only [hk]
      exact free_at g
    rw [e]
    exact decide_eq_false (Nat.not_lt_zero _)
  · have e : quotaOf (relaxP p k) g = quotaOf p g := by
      unfold quotaOf relaxP
      simp only [hk]
      rfl
    rw [e]
    exact h g hg
theorem relax_creator {p : Page} {s : Slate} {k : Nat} (hl : s.length ≤ maxPositions) (h : (creatorViolation p s).isNone = true) : (creatorViolation (relaxP p k) s).isNone = true := by
  unfold creatorViolation at *
  rw [none_find] at *
  intro c hc
  by_cases hk : (k == 1 || k == 5) = true
  · have e : (relaxP p k).creatorLimit = maxPositions := by
      unfold relaxP
      simp only [hk]
      rfl
    rw [e]
    refine decide_eq_false ?_
    have := List.countP_le_length (p := fun d => (at_ (relaxP p k) d).creator == (at_ (relaxP p k) c).creator) (l := s)
    omega
  · have e : (relaxP p k).creatorLimit = p.creatorLimit := by
      unfold relaxP
      simp only [hk]
      rfl
    rw [e]
    exact h c hc
theorem relax_pair {p : Page} {s : Slate} {k : Nat} (h : (pairViolation p s).isNone = true) : (pairViolation (relaxP p k) s).isNone = true := by
  unfold pairViolation at *
  by_cases hk : (k == 3 || k == 5) = true
  · have e : (relaxP p k).forbidden = [] := by
      unfold relaxP
      simp only [hk]
      rfl
    rw [e]
    rfl
  · have e : (relaxP p k).forbidden = p.forbidden := by
      unfold relaxP
      simp only [hk]
      rfl
    rw [e]
    exact h
theorem relax_fresh {p : Page} {s : Slate} {k : Nat} (h : (freshViolation p s).isNone = true) : (freshViolation (relaxP p k) s).isNone = true := by
  unfold freshViolation at *
  by_cases hk : (k == 2 || k == 5) = true
  · have e : (relaxP p k).leastFresh = 0 := by
      unfold relaxP
      simp only [hk]
      rfl
    rw [e, if_neg (Nat.not_lt_zero _)]
    rfl
  · have e : (relaxP p k).leastFresh = p.leastFresh := by
      unfold relaxP
      simp only [hk]
      rfl
    have e2 : isFresh (relaxP p k) = isFresh p := by
      unfold isFresh relaxP
      simp only [hk]
      rfl
    rw [e, e2]
    exact h
theorem relax_feas {p : Page} (w : Wf p) {s : Slate} {k : Nat} (h : isFeasible p s = true) : isFeasible (relaxP p k) s = true := by
  obtain ⟨h1, h2, h3⟩ := feas_iff.mp h
  have h5 : s.length ≤ maxPositions := by rw [h1]; exact w.w5
  unfold fits at h3
  simp only [Bool.and_eq_true] at h3
  refine feas_iff.mpr ⟨h1, ⟨h2.in_, h2.nd, fun i c hi hc => ?_, fun i j hij hj hs => ?_⟩, ?_⟩
  · by_cases hk : (k == 4 || k == 5) = true
    · have e : (relaxP p k).pins = List.replicate p.weights.length none := by
        unfold relaxP
        simp only [hk]
        rfl
      unfold pinAt at hc
      rw [e, List.getD_eq_getElem?_getD, List.getElem?_replicate] at hc
      split at hc <;> cases hc
    · have e : (relaxP p k).pins = p.pins := by
        unfold relaxP
        simp only [hk]
        rfl
      unfold pinAt at hc
      rw [e] at hc
      exact h2.pin i c hi hc
  · by_cases hk : (k == 1 || k == 5) = true
    · have e : (relaxP p k).spacing = 1 := by
        unfold relaxP
        simp only [hk]
        rfl
      rw [e] at hs
      omega
    · have e : (relaxP p k).spacing = p.spacing := by
        unfold relaxP
        simp only [hk]
        rfl
      rw [e] at hs
      exact h2.near i j hij hj hs
  · unfold fits
    simp only [Bool.and_eq_true]
    exact ⟨⟨⟨⟨relax_many h5 h3.1.1.1.1, relax_few h3.1.1.1.2⟩, relax_creator h5 h3.1.1.2⟩, relax_pair h3.1.2⟩, relax_fresh h3.2⟩
/-- where no fresh ones are asked for, the age doesn't matter -/
theorem age_free {q : Page} {x : Nat} (h : q.leastFresh = 0) (s : Slate) : isFeasible { q with freshAge := x } s = isFeasible q s := by
  have e : ∀ r : Page, r.leastFresh = 0 → freshViolation r s = none := fun r hr => by
    unfold freshViolation
    rw [hr, if_neg (Nat.not_lt_zero _)]
  have e1 := e { q with freshAge := x } h
  have e2 := e q h
  have v1 : Kp430.violation { q with freshAge := x } s = [pinViolation q s, manyViolation q s, fewViolation q s, creatorViolation q s, nearViolation q s, pairViolation q s, freshViolation { q with freshAge := x } s].findSome? id := rfl
  have v2 : Kp430.violation q s = [pinViolation q s, manyViolation q s, fewViolation q s, creatorViolation q s, nearViolation q s, pairViolation q s, freshViolation q s].findSome? id := rfl
  have i1 : isFeasible { q with freshAge := x } s = (isSlate q s && (Kp430.violation { q with freshAge := x } s).isNone) := rfl
  rw [i1, v1, e1, ← e2, ← v2]
  rfl
theorem full_age {q : Page} {x : Nat} : ∀ (n : Nat) (s : Slate), full { q with freshAge := x } n s = full q n s
  | 0, s => rfl
  | n + 1, s => by
    show ((Kp430.all q).filter fun c => !s.contains c).flatMap (fun c => full { q with freshAge := x } n (s ++ [c])) = ((Kp430.all q).filter fun c => !s.contains c).flatMap fun c => full q n (s ++ [c])
    congr 1
    funext c
    exact full_age n (s ++ [c])
theorem feasible_age {q : Page} {x : Nat} (h : q.leastFresh = 0) : feasible { q with freshAge := x } = feasible q := by
  rw [feasible_full, feasible_full, full_age]
  exact List.filter_congr fun s _ => age_free h s
theorem best_age {q : Page} {x : Nat} (h : q.leastFresh = 0) : bestValue { q with freshAge := x } = bestValue q := by
  rw [bestValue_more, bestValue_more, feasible_age h]
  rfl
theorem best_relax {p : Page} {k : Nat} (h : k ≤ 5) : bestValue (relaxP p k) = bestValue (Kp430.relaxed p k) := by
  have e := relaxP_is p h
  by_cases hk : (k == 2 || k == 5) = true
  · rw [e]
    refine best_age ?_
    have : k = 2 ∨ k = 5 := by simpa using hk
    rcases this with rfl | rfl <;> rfl
  · have : (relaxP p k).freshAge = (Kp430.relaxed p k).freshAge := by
      have h0 : k = 0 ∨ k = 1 ∨ k = 2 ∨ k = 3 ∨ k = 4 ∨ k = 5 := by omega
      rcases h0 with rfl | rfl | rfl | rfl | rfl | rfl <;> first | rfl | (exact absurd rfl hk)
    rw [e, this]
/-- what relaxing costs -/
theorem cost_le {p : Page} (w : Wf p) {k v u : Nat} (h1 : bestValue p = some v) (h2 : bestValue (relaxP p k) = some u) : v ≤ u := by
  obtain ⟨⟨s, hs, hv⟩, _⟩ := best_ge h1
  have := (best_ge h2).2 s (feasible_iff.mpr (relax_feas w (feasible_mem hs)))
  rw [← hv]
  exact this
theorem relax_ne {p : Page} (w : Wf p) {k : Nat} (h : feasible p ≠ []) : feasible (relaxP p k) ≠ [] := by
  obtain ⟨s, l, e⟩ := List.exists_cons_of_ne_nil h
  have hs : s ∈ feasible p := by rw [e]; exact List.mem_cons_self ..
  have := feasible_iff.mpr (relax_feas w (k := k) (feasible_mem hs))
  intro z
  rw [z] at this
  cases this
end Ps
end

section
set_option maxRecDepth 100000
set_option maxHeartbeats 2000000
namespace Ps
open PySem PySem.Spec PyProof.Rows L2 Evl
open Kp430 (Page Candidate Quota)
/-! The questions that go through all feasible slates. -/
section
variable {P : Program} {w : World} {K : PySem.W.Frag} {mg : Str → Option Value} {base : Heap} {CC CP CS : Addr} {σ : L2.St} {H : Hp} {D : Ends} {a : Addr} {L : Lay} {p : Page} {tp tc tl te ta tb tx : TE} {tz : TS}
/-- tuples of two in a list -/
def TwoT {α : Type} (r : α → V) (H : Hp) (t : Addr) (x : α) : Prop := ∃ y, H t = some (.tup [r x, y])
/-- over a list of tuples of two; the target two names -/
theorem el_lcP {j k : Nat} {vs : List Nat} {ts : List Addr} {α : Type} {l : List α} {r g : α → V} (h : EvS K tl σ H (ts.map V.ref)) (hE : Each (TwoT r) H ts l) (hz : l.length ≤ 40000) (hw : ∀ x y, wipe (((wipe σ vs).set j (some x)).set k (some y)) vs = wipe σ vs)
    (he : ∀ (a : α) (y : V) H1, Ex H H1 → a ∈ l → Ev te (((wipe σ vs).set j (some (r a))).set k (some y)) H1 (g a)) : EvL (tLc (iList K tl) (gTup K 2 (gCons (gName j) (gCons (gName k) gNil))) tYes te vs) σ H (l.map g) := fun H0 e Q q => h H0 e _ fun a H1 e1 hs => ⟨a, rfl, ⟨_, hs⟩, fun D hD => by
  have hY : ∀ i : Nat, ∃ y, ∀ t x, ts[i]? = some t → l[i]? = some x → H t = some (.tup [r x, y]) := by
    intro i
    cases h1 : ts[i]? with
    | none => exact ⟨.non, fun t x h => by cases h⟩
    | some t =>
      cases h2 : l[i]? with
      | none => exact ⟨.non, fun t x _ h => by cases h⟩
      | some x =>
        obtain ⟨y, hy⟩ := hE.2 i t x h1 h2
        exact ⟨y, fun t' x' q1 q2 => by cases q1; cases q2; exact hy⟩
  obtain ⟨Y, hY⟩ := Classical.skolem.mp hY
  have hlt : (ts.map V.ref).length = l.length := by rw [List.length_map]; exact hE.1
  cases l with
  | nil =>
    refine lc_gen walk_list (fun _ => true) (fun _ => .non) (fun _ => σ) hD (by rw [hlt]; exact hz) (fun H' e' => ex_l e' hs) ?_ ?_ ?_ ?_ fun H' e' h' => q D H' (fresh_back e1 hD) (e1.trans e') (by rw [hlt] at h'; exact h')
    all_goals (intro i; rw [hlt]; simp)
  | cons a0 l' =>
    refine lc_gen walk_list (fun _ => true) (fun i => g ((a0 :: l').getD i a0)) (fun i => ((wipe σ vs).set j (some (r ((a0 :: l').getD i a0)))).set k (some (Y i))) hD (by rw [hlt]; exact hz) (fun H' e' => ex_l e' hs) ?_ (fun i _ => hw _ _) (fun _ _ => et_yes) ?_ fun H' e' h' => q D H' (fresh_back e1 hD) (e1.trans e') ?_
    · rintro i x H2 H3 hi e2 ⟨rfl, hx⟩
      refine ⟨Ex.refl _, fun Q k => ?_⟩
      obtain ⟨t, ht, rfl⟩ := getE_map hx
      rw [hlt] at hi
      have hl : (a0 :: l')[i]? = some ((a0 :: l').getD i a0) := by rw [List.getD_eq_getElem?_getD, List.getElem?_eq_getElem hi]; rfl
      exact g_pair ((e.trans (e1.trans e2)) _ _ (hY i t _ ht hl)) (k _ (Ex.refl _))
    · intro i hi _
      rw [hlt] at hi
      refine he _ _ H1 (e.trans e1) ?_
      rw [List.getD_eq_getElem?_getD, List.getElem?_eq_getElem hi]
      exact List.getElem_mem hi
    · rw [hlt] at h'
      rw [h']
      congr 2
      exact given_map (fun _ _ => rfl) (fun i a hi => by simp [List.getD_eq_getElem?_getD, hi])⟩
def rGreatest (K : PySem.W.Frag) : List V → Hp → V → Prop := fun vs H z => ∃ d ts, ∃ ns : List Nat, vs = [.ref d] ∧ SqL K H d (ts.map V.ref) ∧ Each (TwoT nV) H ts ns ∧ ns.length ≤ 40000 ∧ z = .int (maxOr (-1) (ns.map fun n : Nat => (n : Int)))
theorem TwoT.mono {α : Type} {r : α → V} {H H' : Hp} {t : Addr} {x : α} (h : TwoT r H t x) (e : Ex H H') : TwoT r H' t x := by
  obtain ⟨y, h1⟩ := h
  exact ⟨y, e _ _ h1⟩
abbrev s_greatest_value : Stmt := topS 80
theorem sc_greatest_value : FnScope ["found", "reached", "slate"] ["found"] (defScope s_greatest_value) := ⟨rfl, rfl, rfl, by decide +kernel, rfl, by decide +kernel, by decide +kernel⟩
theorem ok_greatest_value (T : Txt K mg CC CP CS) (F : FunAt K mg "greatest_value" s_greatest_value ["found"]) : DefAt P w K mg base 1 "greatest_value" ["found"] (spV (rGreatest K)) := by
  obtain ⟨f, fd, FF, hm, hb⟩ := F.ex
  refine ⟨f, fd, FF.ok sc_greatest_value (fun vs H Q E h => ?_) (fun cdv A outer s H vs Q E hr h => ⟨_, (pss_one (ps_ret (pe_callBK (cr_maxD (K := K) hr) (by rfl) T.max (by decide +kernel) (pa_cons (pe_lc (own := [("reached", 1), ("slate", 2)]) rfl sc_greatest_value.nd (wList (K := K) (pv 0)) (blkOk_by (own := [("reached", 1), ("slate", 2)]) (N := ["found", "reached", "slate"]) (sc := defScope s_greatest_value) (by decide +kernel)) (fun _ _ _ _ _ => gTupK (K := K) (n := 2) (pgs_cons (pg_name (i := 1) sc_greatest_value.nd rfl (Or.inl rfl)) (pgs_cons (pg_name (i := 2) sc_greatest_value.nd rfl (Or.inl rfl)) pgs_nil))) (fun _ _ _ _ _ => pts_nil) (fun _ _ _ _ _ => (pv 1))) pa_nil) (pk_cons (pe_un un_neg pe_int) pk_nil)))), ?_⟩), hm, FF.kp, hb⟩
  · obtain ⟨z, ⟨_, _, _, rfl, _⟩, _⟩ := h
    rfl
  · obtain ⟨z, ⟨d, ts, ns, rfl, hS, hE, hz, rfl⟩, k⟩ := h
    exact s_ret (ev_maxD (EvS.is (es_new (el_lcP (g := nV) (es_of (ev_var rfl) hS) hE hz (by intro _ _; rfl) fun a y H1 e1 _ => ev_var rfl)) (by rw [List.map_map]; rfl)) (ev_un ev_c ru_neg)) fun H1 e1 => k H1 e1
/-- to the list of all feasible slates of a page -/
def EvF (p : Page) (te : TE) (σ : L2.St) (H : Hp) : Prop := ∀ H1, Ex H H1 → ∀ Q : VK, (∀ d ts H2, H1 d = none → Ex H1 H2 → FoundAt p H2 d ts (Kp430.feasible p) → Q (.ref d) H2) → te σ H1 Q
/-- to a page -/
def EvPg (CC CP : Addr) (p : Page) (te : TE) (σ : L2.St) (H : Hp) : Prop := ∀ H1, Ex H H1 → ∀ Q : VK, (∀ a H2, Ex H1 H2 → PageAt CC CP H2 a p → Q (.ref a) H2) → te σ H1 Q
theorem epg_of (h : Ev te σ H (.ref a)) (hp : PageAt CC CP H a p) : EvPg CC CP p te σ H := fun H1 e Q q => h H1 e Q fun H2 e2 => q a H2 e2 (hp.mono (e.trans e2))
theorem ef_cd (h : EvPg CC CP p te σ H) (wf : Wf p) : EvF p (tCall (spFound CC CP) [] E0 (tCons te tNil)) σ H := fun H1 e Q q => h H1 e _ fun a H2 e2 hp => by
  show spFound CC CP ([V.ref a] ++ []) H2 _ E0
  exact ⟨a, p, rfl, hp, wf, fun d ts H3 hd e3 hF => q d ts H3 (fresh_back e2 hd) (e2.trans e3) hF⟩
theorem q_found {i : Nat} (h : EvF p te σ H) (k : ∀ d ts H1, H d = none → Ex H H1 → FoundAt p H1 d ts (Kp430.feasible p) → tz D (σ.set i (some (.ref d))) H1) : tSeq (tAsg te (gName i)) tz D σ H := h H (Ex.refl H) _ k
theorem ev_lenF (h : EvF p te σ H) : Ev (tCB (rLenS K) (tCons te tNil)) σ H (nV (Kp430.feasible p).length) := fun H1 e Q q => h H1 e _ fun d ts H2 hd e2 hF => ⟨d, _, rfl, .inl (sq_of hF.ls), by
  rw [List.length_map, hF.ts.1]
  exact q H2 e2⟩
/-- the values of these slates -/
abbrev vals (p : Page) (ss : List (List Nat)) : List Int := ss.map fun s => ((Kp430.value p s : Nat) : Int)
theorem FoundAt.two {p : Page} {H : Hp} {d : Addr} {ts : List Addr} {ss : List (List Nat)} (h : FoundAt p H d ts ss) : Each (TwoT nV) H ts (ss.map (Kp430.value p)) := by
  refine ⟨by rw [List.length_map]; exact h.ts.1, fun i t x h1 h2 => ?_⟩
  obtain ⟨s, hs, rfl⟩ := getE_map h2
  obtain ⟨l, q1, _⟩ := h.ts.2 i t s h1 hs
  exact ⟨_, q1⟩
theorem great_of {p : Page} {H : Hp} {d : Addr} {ts : List Addr} {ss : List (List Nat)} (h : FoundAt p H d ts ss) (hz : ss.length ≤ 40000) : rGreatest K [.ref d] H (.int (maxOr (-1) (vals p ss))) :=
  ⟨d, ts, ss.map (Kp430.value p), rfl, sq_of h.ls, h.two, by rw [List.length_map]; exact hz, by rw [List.map_map]; rfl⟩
theorem ev_gF (h : EvF p te σ H) (wf : Wf p) : Ev (tCall (spV (rGreatest K)) [] E0 (tCons te tNil)) σ H (.int (maxOr (-1) (vals p (Kp430.feasible p)))) := fun H1 e Q q => h H1 e _ fun d ts H2 hd e2 hF =>
  ⟨_, great_of hF (feasible_few wf), fun H3 e3 => q H3 (e2.trans e3)⟩
theorem ev_gV {d : Addr} {ts : List Addr} {ss : List (List Nat)} (h : Ev te σ H (.ref d)) (hF : FoundAt p H d ts ss) (hz : ss.length ≤ 40000) : Ev (tCall (spV (rGreatest K)) [] E0 (tCons te tNil)) σ H (.int (maxOr (-1) (vals p ss))) :=
  ev_cd (ea_cons h ea_nil) fun H1 e1 => great_of (hF.mono e1) hz
theorem max_best {p : Page} {v : Nat} (h : Kp430.bestValue p = some v) : maxOr (-1) (vals p (Kp430.feasible p)) = (v : Int) := by
  cases e : Kp430.feasible p with
  | nil => rw [best_none e] at h; cases h
  | cons s l =>
    rw [best_some e] at h
    cases h
    show (l.map fun s => ((Kp430.value p s : Nat) : Int)).foldl max (Kp430.value p s : Int) = _
    rw [← cast_max, List.map_map]
    rfl
theorem ev_noF {d : Addr} {ts : List Addr} {ss : List (List Nat)} (h : Ev te σ H (.ref d)) (hF : FoundAt p H d ts ss) : EvT (tNot (tTru K te)) σ H ss.isEmpty := by
  refine et_is (et_not (et_tru (es_of h (sq_of hF.ls)))) ?_
  have := hF.ts.1
  cases ss with
  | nil =>
    cases ts with
    | nil => rfl
    | cons t ts => cases this
  | cons s ss =>
    cases ts with
    | nil => cases this
    | cons t ts => rfl
/-! ### count_feasible -/
def rPgA (CC CP : Addr) (c : Kp430.Call) : List V → Hp → List V → Prop := fun vs H xs => ∃ a p, vs = [.ref a] ∧ PageAt CC CP H a p ∧ Wf p ∧ xs = aL (Kp430.step (some p) c).2
abbrev s_count_feasible : Stmt := topS 82
theorem sc_count_feasible : FnScope ["page"] ["page"] (defScope s_count_feasible) := ⟨rfl, rfl, rfl, by decide +kernel, rfl, by decide +kernel, by decide +kernel⟩
theorem ok_count_feasible (T : Txt K mg CC CP CS) (F : FunAt K mg "count_feasible" s_count_feasible ["page"]) (D_feasible_slates : DefAt P w K mg base 5 "feasible_slates" ["page"] (spFound CC CP)) : DefAt P w K mg base 6 "count_feasible" ["page"] (spL (rPgA CC CP .countFeasible)) := by
  obtain ⟨f, fd, FF, hm, hb⟩ := F.ex
  refine ⟨f, fd, FF.ok sc_count_feasible (fun vs H Q E h => ?_) (fun cdv A outer s H vs Q E hr h => ⟨_, (pss_one (ps_ret (pe_lst (pa_cons (pe_callB (lenK (K := K)) (by rfl) T.len (by decide +kernel) (pa_cons (pe_cd D_feasible_slates (hr.mono (by decide)) pass0 (pa_cons (pv 0) pa_nil)) pa_nil)) pa_nil)))), ?_⟩), hm, FF.kp, hb⟩
  · obtain ⟨z, ⟨_, _, rfl, _⟩, _⟩ := h
    rfl
  · obtain ⟨z, ⟨a, p, rfl, hp, wf, rfl⟩, k⟩ := h
    exact s_retL (el_lst (ea_cons (ev_lenF (ef_cd (epg_of (ev_var rfl) hp) wf)) ea_nil) (by show 1 ≤ 100000; decide)) fun d H2 hd e2 h2 => k d H2 hd e2 h2
/-! ### gap -/
def rGap (K : PySem.W.Frag) (CC CP : Addr) : List V → Hp → List V → Prop := fun vs H xs => ∃ a l p ns, vs = [.ref a, .ref l] ∧ AskedI K CC CP H a l p ns ∧ xs = aL (Kp430.step (some p) (.gap ns)).2
abbrev s_gap : Stmt := topS 83
theorem sc_gap : FnScope ["page", "prices", "found", "reached", "limit"] ["page", "prices"] (defScope s_gap) := ⟨rfl, rfl, rfl, by decide +kernel, rfl, by decide +kernel, by decide +kernel⟩
theorem ok_gap (T : Txt K mg CC CP CS) (F : FunAt K mg "gap" s_gap ["page", "prices"]) (D_prices_fit : DefAt P w K mg base 1 "prices_fit" ["prices"] (spV (rPricesFit K))) (D_feasible_slates : DefAt P w K mg base 5 "feasible_slates" ["page"] (spFound CC CP))
    (D_greatest_value : DefAt P w K mg base 1 "greatest_value" ["found"] (spV (rGreatest K))) (D_bound_of : DefAt P w K mg base 3 "bound_of" ["page", "prices"] (spV (rPrc K CC CP Kp430.bound))) :
    DefAt P w K mg base 6 "gap" ["page", "prices"] (spL (rGap K CC CP)) := by
  obtain ⟨f, fd, FF, hm, hb⟩ := F.ex
  refine ⟨f, fd, FF.ok sc_gap (fun vs H Q E h => ?_) (fun cdv A outer s H vs Q E hr h => ⟨_, (pss_cons (ps_if (pt_not (pt_val (pe_cd D_prices_fit (hr.mono (by decide)) pass0 (pa_cons (pv 1) pa_nil)))) (pss_one (ps_ret (pe_lst (pa_cons (pe_gi T.OUTSIDE_LIMITS) pa_nil)))) pss_nil)
      (pss_cons (ps_set (i := 2) sc_gap.nd rfl (Or.inl rfl) (pe_cd D_feasible_slates (hr.mono (by decide)) pass0 (pa_cons (pv 0) pa_nil)))
      (pss_cons (ps_if (pt_not (truK (K := K) (pv 2))) (pss_one (ps_ret (pe_lst (pa_cons (pe_gi T.NOT_THERE) pa_nil)))) pss_nil)
      (pss_cons (ps_set (i := 3) sc_gap.nd rfl (Or.inl rfl) (pe_cd D_greatest_value (hr.mono (by decide)) pass0 (pa_cons (pv 2) pa_nil)))
      (pss_cons (ps_set (i := 4) sc_gap.nd rfl (Or.inl rfl) (pe_cd D_bound_of (hr.mono (by decide)) pass0 (pa_cons (pv 0) (pa_cons (pv 1) pa_nil))))
      (pss_one (ps_ret (pe_lst (pa_cons pe_int (pa_cons (pv 3) (pa_cons (pv 4) (pa_cons (pe_op op_sub (pv 4) (pv 3)) pa_nil)))))))))))), ?_⟩), hm, FF.kp, hb⟩
  · obtain ⟨z, ⟨_, _, _, _, rfl, _⟩, _⟩ := h
    rfl
  · obtain ⟨z, ⟨a, l, p, ns, rfl, hI, rfl⟩, k⟩ := h
    have hst : (Kp430.step (some p) (.gap ns)).2 = if Kp430.validPrices ns = false then Kp430.single (-22) else match Kp430.bestValue p with
      | none => Kp430.single (-33)
      | some v => ⟨0, [(v : Int), Kp430.bound p ns, Kp430.bound p ns - v]⟩ := rfl
    rw [hst] at k
    refine q_when (et_not (et_B (ev_pf hI.lst hI.few (ev_var rfl)))) (fun hb H1 e1 => ?_) (fun hb H1 e1 => ?_)
    · rw [Bool.not_eq_true'] at hb
      rw [if_pos hb] at k
      exact retE ev_c e1 k
    · rw [Bool.not_eq_false'] at hb
      rw [if_neg (by rw [hb]; decide)] at k
      have hA := (hI.mono e1).prices hb
      obtain ⟨L, hp⟩ := hA.pg
      refine q_found (ef_cd (epg_of (ev_var rfl) ⟨L, hp⟩) hA.wf) fun d ts H2 hd e2 hF => ?_
      have E2 := e1.trans e2
      refine q_when (ev_noF (ev_var rfl) hF) (fun hb H3 e3 => ?_) (fun hb H3 e3 => ?_)
      · rw [best_none (List.isEmpty_iff.mp hb)] at k
        exact retE ev_c (E2.trans e3) k
      · have E3 := E2.trans e3
        obtain ⟨s, l', hsl⟩ := List.exists_cons_of_ne_nil (fun z => by rw [List.isEmpty_iff.mpr z] at hb; cases hb)
        have hbv := best_some hsl
        rw [hbv] at k
        refine q_asg (ev_is (ev_gV (ev_var rfl) (hF.mono e3) (feasible_few hA.wf)) (congrArg V.int (max_best hbv))) fun H4 e4 => ?_
        refine q_asg (ev_cd (ea_cons (ev_var rfl) (ea_cons (ev_var rfl) ea_nil)) fun H5 e5 => ⟨a, l, p, ns, hA.mono ((e2.trans e3).trans (e4.trans e5)), rfl⟩) fun H5 e5 => ?_
        exact s_retL (el_lst (ea_cons ev_c (ea_cons (ev_var rfl) (ea_cons (ev_var rfl) (ea_cons (ev_op (ev_var rfl) (ev_var rfl) rv_I0) ea_nil)))) (by show 4 ≤ 100000; decide)) fun d H6 hd e6 h6 => k d H6 (fresh_back (E3.trans (e4.trans e5)) hd) (E3.trans ((e4.trans e5).trans e6)) h6
/-! ### cost_of -/
def rNum (CC CP : Addr) (F : Nat → Kp430.Call) : List V → Hp → List V → Prop := fun vs H xs => ∃ a p n, vs = [.ref a, nV n] ∧ PageAt CC CP H a p ∧ Wf p ∧ xs = aL (Kp430.step (some p) (F n)).2
theorem epg_relax {k : Nat} (h : Ev te σ H (.ref a)) (hy : Ev tx σ H (nV k)) (hp : PageAt CC CP H a p) (wf : Wf p) : EvPg CC CP (relaxP p k) (tMeth CP "relaxed" (spRelax CC CP) [] E0 te (tCons tx tNil)) σ H := fun H1 e Q q => h H1 e _ fun H2 e2 => by
  obtain ⟨L, hpl⟩ := hp
  exact ⟨a, L.dx, _, rfl, (e.trans e2) _ _ hpl.ins, rfl, hy H2 (e.trans e2) _ fun H3 e3 => by
    show spRelax CC CP ([V.ref a, nV k] ++ []) H3 _ E0
    exact ⟨a, p, k, rfl, ⟨L, hpl.mono ((e.trans e2).trans e3)⟩, wf, fun x H4 e4 hx => q x H4 ((e2.trans e3).trans e4) hx⟩⟩
abbrev s_cost_of : Stmt := topS 84
theorem sc_cost_of : FnScope ["page", "kind", "found", "reached", "relaxed"] ["page", "kind"] (defScope s_cost_of) := ⟨rfl, rfl, rfl, by decide +kernel, rfl, by decide +kernel, by decide +kernel⟩
theorem ok_cost_of (T : Txt K mg CC CP CS) (F : FunAt K mg "cost_of" s_cost_of ["page", "kind"]) (D_feasible_slates : DefAt P w K mg base 5 "feasible_slates" ["page"] (spFound CC CP))
    (D_greatest_value : DefAt P w K mg base 1 "greatest_value" ["found"] (spV (rGreatest K))) (D_Page_relaxed : MethAt P w K mg base 3 CP "relaxed" ["self", "kind"] (spRelax CC CP)) :
    DefAt P w K mg base 6 "cost_of" ["page", "kind"] (spL (rNum CC CP .costOf)) := by
  obtain ⟨f, fd, FF, hm, hb⟩ := F.ex
  refine ⟨f, fd, FF.ok sc_cost_of (fun vs H Q E h => ?_) (fun cdv A outer s H vs Q E hr h => ⟨_, (pss_cons (ps_if (pt_cmpR op_gt (pv 1) (pe_gi T.GREATEST_KIND) (nomark _)) (pss_one (ps_ret (pe_lst (pa_cons (pe_gi T.OUTSIDE_LIMITS) pa_nil)))) pss_nil)
      (pss_cons (ps_set (i := 2) sc_cost_of.nd rfl (Or.inl rfl) (pe_cd D_feasible_slates (hr.mono (by decide)) pass0 (pa_cons (pv 0) pa_nil)))
      (pss_cons (ps_if (pt_not (truK (K := K) (pv 2))) (pss_one (ps_ret (pe_lst (pa_cons (pe_gi T.NOT_THERE) pa_nil)))) pss_nil)
      (pss_cons (ps_set (i := 3) sc_cost_of.nd rfl (Or.inl rfl) (pe_cd D_greatest_value (hr.mono (by decide)) pass0 (pa_cons (pv 2) pa_nil)))
      (pss_cons (ps_set (i := 4) sc_cost_of.nd rfl (Or.inl rfl) (pe_cd D_greatest_value (hr.mono (by decide)) pass0 (pa_cons (pe_cd D_feasible_slates (hr.mono (by decide)) pass0 (pa_cons (pe_mt D_Page_relaxed T.cPage (hr.mono (by decide)) pass0 (pv 0) (pa_cons (pv 1) pa_nil)) pa_nil)) pa_nil)))
      (pss_one (ps_ret (pe_lst (pa_cons (pv 3) (pa_cons (pv 4) (pa_cons (pe_op op_sub (pv 4) (pv 3)) pa_nil))))))))))), ?_⟩), hm, FF.kp, hb⟩
  · obtain ⟨z, ⟨_, _, _, rfl, _⟩, _⟩ := h
    rfl
  · obtain ⟨z, ⟨a, p, kk, rfl, hp, wf, rfl⟩, k⟩ := h
    have hst : (Kp430.step (some p) (.costOf kk)).2 = if 5 < kk then Kp430.single (-22) else match Kp430.bestValue p, Kp430.bestValue (Kp430.relaxed p kk) with
      | some v, some w => Kp430.natResult v [w, w - v]
      | _, _ => Kp430.single (-33) := rfl
    rw [hst] at k
    refine q_when (et_is (et_test (ev_op (ev_var rfl) ev_c rv_I0)) (show decide _ = decide (5 < kk) by rw [decide_eq_decide]; show (kk : Int) > 5 ↔ _; omega)) (fun hb H1 e1 => ?_) (fun hb H1 e1 => ?_)
    · rw [if_pos (of_decide_eq_true hb)] at k
      exact retE ev_c e1 k
    · have hk5 := of_decide_eq_false hb
      rw [if_neg hk5] at k
      refine q_found (ef_cd (epg_of (ev_var rfl) (hp.mono e1)) wf) fun d ts H2 hd e2 hF => ?_
      have E2 := e1.trans e2
      refine q_when (ev_noF (ev_var rfl) hF) (fun hb H3 e3 => ?_) (fun hb H3 e3 => ?_)
      · rw [best_none (List.isEmpty_iff.mp hb)] at k
        exact retE ev_c (E2.trans e3) k
      · have E3 := E2.trans e3
        have hne : Kp430.feasible p ≠ [] := fun z => by rw [List.isEmpty_iff.mpr z] at hb; cases hb
        obtain ⟨s, l', hsl⟩ := List.exists_cons_of_ne_nil hne
        obtain ⟨s2, l2, hsl2⟩ := List.exists_cons_of_ne_nil (relax_ne wf (k := kk) hne)
        have hbv := best_some hsl
        have hbv2 := best_some hsl2
        have hle := cost_le wf hbv hbv2
        rw [← best_relax (by omega), hbv, hbv2] at k
        refine q_asg (ev_is (ev_gV (ev_var rfl) (hF.mono e3) (feasible_few wf)) (congrArg V.int (max_best hbv))) fun H4 e4 => ?_
        refine q_asg (ev_is (ev_gF (ef_cd (epg_relax (ev_var rfl) (ev_var rfl) (hp.mono (E3.trans e4)) wf) (relaxed_wf wf kk)) (relaxed_wf wf kk)) (congrArg V.int (max_best hbv2))) fun H5 e5 => ?_
        exact s_retL (EvL.is (el_lst (ea_cons (ev_var rfl) (ea_cons (ev_var rfl) (ea_cons (ev_op (ev_var rfl) (ev_var rfl) rv_I0) ea_nil))) (by show 3 ≤ 100000; decide)) (by
          show [_, _, _] = [_, _, _]
          congr 3
          show V.int _ = V.int _
          congr 1
          exact (Int.natCast_sub hle).symm)) fun d H6 hd e6 h6 => k d H6 (fresh_back (E3.trans (e4.trans e5)) hd) (E3.trans ((e4.trans e5).trans e6)) h6
/-! ### worth -/
/-- some of the slates that were found -/
theorem FoundAt.some_ {p : Page} {H : Hp} {d d' : Addr} {ts : List Addr} {ss : List (List Nat)} (h : FoundAt p H d ts ss) {f : List Nat → Bool} (hd : H d' = some (.lst (((ts.zip ss).filter fun x => f x.2).map fun x => V.ref x.1))) :
    FoundAt p H d' (((ts.zip ss).filter fun x => f x.2).map (·.1)) (ss.filter f) := by
  have e2 : ss.filter f = ((ts.zip ss).filter fun x => f x.2).map (·.2) := by
    have : ss = (ts.zip ss).map (·.2) := by rw [List.map_snd_zip]; have := h.ts.1; omega
    conv => lhs; rw [this]
    rw [List.filter_map]
    rfl
  refine ⟨by rw [hd, List.map_map]; rfl, ?_⟩
  rw [e2]
  refine ⟨by rw [List.length_map, List.length_map], fun i t s h1 h2 => ?_⟩
  obtain ⟨x, hx, rfl⟩ := getE_map h1
  obtain ⟨y, hy, rfl⟩ := getE_map h2
  rw [hx] at hy
  cases hy
  have hm := (List.mem_filter.mp (List.mem_of_getElem? hx)).1
  obtain ⟨i, hi, e⟩ := List.getElem_of_mem hm
  rw [List.getElem_zip] at e
  have hi1 : i < ts.length := by rw [List.length_zip] at hi; omega
  have hi2 : i < ss.length := by rw [List.length_zip] at hi; omega
  have := h.ts.2 i ts[i] ss[i] (List.getElem?_eq_getElem hi1) (List.getElem?_eq_getElem hi2)
  rw [← e]
  exact this
theorem zip_refs {ts : List Addr} {ss : List (List Nat)} (h : ts.length = ss.length) : (ts.zip ss).map (fun x => V.ref x.1) = ts.map V.ref := by
  have : ts = (ts.zip ss).map (·.1) := by rw [List.map_fst_zip]; omega
  conv => rhs; rw [this]
  rw [List.map_map]
  rfl
theorem FoundAt.zip_at {p : Page} {H : Hp} {d : Addr} {ts : List Addr} {ss : List (List Nat)} (h : FoundAt p H d ts ss) {x : Addr × List Nat} (hx : x ∈ ts.zip ss) : FndT p H x.1 x.2 := by
  obtain ⟨i, hi, e⟩ := List.getElem_of_mem hx
  rw [List.getElem_zip] at e
  have hi1 : i < ts.length := by rw [List.length_zip] at hi; omega
  have hi2 : i < ss.length := by rw [List.length_zip] at hi; omega
  have := h.ts.2 i ts[i] ss[i] (List.getElem?_eq_getElem hi1) (List.getElem?_eq_getElem hi2)
  rw [← e]
  exact this
theorem worth_is (p : Page) (ss : List (List Nat)) : maxOr (-1) (vals p ss) + 1 = (((if (ss.map (Kp430.value p)).isEmpty then 0 else (ss.map (Kp430.value p)).foldl max 0 + 1 : Nat)) : Int) := by
  cases ss with
  | nil => rfl
  | cons s l =>
    show (l.map fun s => ((Kp430.value p s : Nat) : Int)).foldl max (Kp430.value p s : Int) + 1 = _
    have := cast_max (l.map (Kp430.value p)) (Kp430.value p s)
    rw [List.map_map] at this
    rw [show (fun n : Nat => (n : Int)) ∘ Kp430.value p = fun s => ((Kp430.value p s : Nat) : Int) from rfl] at this
    rw [this]
    rw [List.map_cons]
    show _ = (((Kp430.value p s :: l.map (Kp430.value p)).foldl max 0 + 1 : Nat) : Int)
    rw [List.foldl_cons, Nat.zero_max]
    omega
abbrev s_worth : Stmt := topS 85
theorem sc_worth : FnScope ["page", "candidate", "found", "without", "including", "pair"] ["page", "candidate"] (defScope s_worth) := ⟨rfl, rfl, rfl, by decide +kernel, rfl, by decide +kernel, by decide +kernel⟩
theorem ok_worth (T : Txt K mg CC CP CS) (F : FunAt K mg "worth" s_worth ["page", "candidate"]) (D_feasible_slates : DefAt P w K mg base 5 "feasible_slates" ["page"] (spFound CC CP))
    (D_greatest_value : DefAt P w K mg base 1 "greatest_value" ["found"] (spV (rGreatest K))) (D_Page_has_candidate : MethAt P w K mg base 1 CP "has_candidate" ["self", "candidate"] (spV (rHasC CC CP))) :
    DefAt P w K mg base 6 "worth" ["page", "candidate"] (spL (rNum CC CP .worth)) := by
  obtain ⟨f, fd, FF, hm, hb⟩ := F.ex
  refine ⟨f, fd, FF.ok sc_worth (fun vs H Q E h => ?_) (fun cdv A outer s H vs Q E hr h => ⟨_, (pss_cons (ps_if (pt_not (pt_val (pe_mt D_Page_has_candidate T.cPage (hr.mono (by decide)) pass0 (pv 0) (pa_cons (pv 1) pa_nil)))) (pss_one (ps_ret (pe_lst (pa_cons (pe_gi T.NO_CANDIDATE) pa_nil)))) pss_nil)
      (pss_cons (ps_set (i := 2) sc_worth.nd rfl (Or.inl rfl) (pe_cd D_feasible_slates (hr.mono (by decide)) pass0 (pa_cons (pv 0) pa_nil)))
      (pss_cons (ps_if (pt_not (truK (K := K) (pv 2))) (pss_one (ps_ret (pe_lst (pa_cons (pe_gi T.NOT_THERE) pa_nil)))) pss_nil)
      (pss_cons (ps_setLc (i := 3) (own := [("pair", 5)]) rfl sc_worth.nd rfl rfl (sw_true rfl rfl rfl (by decide +kernel)) (wList (K := K) (pv 2)) (blkOk_by (own := [("pair", 5)]) (N := ["page", "candidate", "found", "without", "including", "pair"]) (sc := defScope s_worth) (by decide +kernel)) (fun _ _ _ _ _ => pg_name (i := 5) sc_worth.nd rfl (Or.inl rfl)) (fun _ _ _ _ _ => pts_one (pt_cmpR (notInK (K := K)) (pv 1) (pe_ix (ixT (K := K)) (pv 5) pe_int (fun _ _ => rfl)) (by rfl))) (fun _ _ _ _ _ => (pv 5)))
      (pss_cons (ps_setLc (i := 4) (own := [("pair", 5)]) rfl sc_worth.nd rfl rfl (sw_true rfl rfl rfl (by decide +kernel)) (wList (K := K) (pv 2)) (blkOk_by (own := [("pair", 5)]) (N := ["page", "candidate", "found", "without", "including", "pair"]) (sc := defScope s_worth) (by decide +kernel)) (fun _ _ _ _ _ => pg_name (i := 5) sc_worth.nd rfl (Or.inl rfl)) (fun _ _ _ _ _ => pts_one (pt_cmpR (inK (K := K)) (pv 1) (pe_ix (ixT (K := K)) (pv 5) pe_int (fun _ _ => rfl)) (by rfl))) (fun _ _ _ _ _ => (pv 5)))
      (pss_one (ps_ret (pe_lst (pa_cons (pe_cd D_greatest_value (hr.mono (by decide)) pass0 (pa_cons (pv 2) pa_nil)) (pa_cons (pe_op op_add (pe_cd D_greatest_value (hr.mono (by decide)) pass0 (pa_cons (pv 3) pa_nil)) pe_int) (pa_cons (pe_op op_add (pe_cd D_greatest_value (hr.mono (by decide)) pass0 (pa_cons (pv 4) pa_nil)) pe_int) pa_nil))))))))))), ?_⟩), hm, FF.kp, hb⟩
  · obtain ⟨z, ⟨_, _, _, rfl, _⟩, _⟩ := h
    rfl
  · obtain ⟨z, ⟨a, p, c, rfl, ⟨L, hp⟩, wf, rfl⟩, k⟩ := h
    have hst : (Kp430.step (some p) (.worth c)).2 = if Kp430.hasCandidate p c = false then Kp430.single (-2) else match Kp430.bestValue p, ((Kp430.feasible p).filter fun s => !s.contains c).map (Kp430.value p), ((Kp430.feasible p).filter fun s => s.contains c).map (Kp430.value p) with
      | some v, a, b => Kp430.natResult v [if a.isEmpty then 0 else a.foldl max 0 + 1, if b.isEmpty then 0 else b.foldl max 0 + 1]
      | none, _, _ => Kp430.single (-33) := rfl
    rw [hst] at k
    refine q_when (et_not (et_B (ev_hasC T hp (ev_var rfl) (ev_var rfl)))) (fun hb H1 e1 => ?_) (fun hb H1 e1 => ?_)
    · rw [Bool.not_eq_true'] at hb
      rw [if_pos hb] at k
      exact retE ev_c e1 k
    · rw [Bool.not_eq_false'] at hb
      rw [if_neg (by rw [hb]; decide)] at k
      refine q_found (ef_cd (epg_of (ev_var rfl) ⟨L, hp.mono e1⟩) wf) fun d ts H2 hd e2 hF => ?_
      have E2 := e1.trans e2
      refine q_when (ev_noF (ev_var rfl) hF) (fun hb H3 e3 => ?_) (fun hb H3 e3 => ?_)
      · rw [best_none (List.isEmpty_iff.mp hb)] at k
        exact retE ev_c (E2.trans e3) k
      · have E3 := E2.trans e3
        have hne : Kp430.feasible p ≠ [] := fun z => by rw [List.isEmpty_iff.mpr z] at hb; cases hb
        obtain ⟨s, l', hsl⟩ := List.exists_cons_of_ne_nil hne
        have hbv := best_some hsl
        rw [hbv] at k
        have hfew := feasible_few wf
        have hF3 := hF.mono e3
        have hzl : (ts.zip (Kp430.feasible p)).length ≤ 40000 := by rw [List.length_zip]; omega
        refine q_asgL (el_lcS (l := ts.zip (Kp430.feasible p)) (r := fun x => V.ref x.1) (d := fun x => !x.2.contains c) (g := fun x => V.ref x.1) (EvS.is (es_of (ev_var rfl) (sq_of hF3.ls)) (zip_refs hF.ts.1).symm) hzl (by intro _; rfl) (fun x H4 e4 hx => ?_) (fun x H4 e4 hx _ => ev_var rfl)) fun w1 H4 hw1 e4 h4 => ?_
        · obtain ⟨l, q1, q2⟩ := hF3.zip_at hx
          exact et_is (et_test (ev_op (ev_var rfl) (ev_ixT (ev_var rfl) (st_of (e4 _ _ q1)) ev_c (atI_nat (j := 1) rfl)) (rv_niL (sq_of (e4 _ _ q2)) rfl (flat_nats _)))) (by rw [inV_nats])
        have hF4 := hF3.mono e4
        have hW1 := hF4.some_ (f := fun s => !s.contains c) h4
        refine q_asgL (el_lcS (l := ts.zip (Kp430.feasible p)) (r := fun x => V.ref x.1) (d := fun x => x.2.contains c) (g := fun x => V.ref x.1) (EvS.is (es_of (ev_var rfl) (sq_of hF4.ls)) (zip_refs hF.ts.1).symm) hzl (by intro _; rfl) (fun x H5 e5 hx => ?_) (fun x H5 e5 hx _ => ev_var rfl)) fun w2 H5 hw2 e5 h5 => ?_
        · obtain ⟨l, q1, q2⟩ := hF4.zip_at hx
          exact et_is (et_test (ev_op (ev_var rfl) (ev_ixT (ev_var rfl) (st_of (e5 _ _ q1)) ev_c (atI_nat (j := 1) rfl)) (rv_isL (sq_of (e5 _ _ q2)) rfl (flat_nats _)))) (by rw [inV_nats])
        have hF5 := hF4.mono e5
        have hW2 := hF5.some_ (f := fun s => s.contains c) h5
        have hW1' := hW1.mono e5
        have z1 := Nat.le_trans (List.length_filter_le (fun s => !s.contains c) (Kp430.feasible p)) hfew
        have z2 := Nat.le_trans (List.length_filter_le (fun s => s.contains c) (Kp430.feasible p)) hfew
        exact s_retL (el_lst (ea_cons (ev_is (ev_gV (ev_var rfl) hF5 hfew) (congrArg V.int (max_best hbv))) (ea_cons (ev_is (ev_op (ev_gV (ev_var rfl) hW1' z1) ev_c rv_I0) (congrArg V.int (worth_is p _))) (ea_cons (ev_is (ev_op (ev_gV (ev_var rfl) hW2 z2) ev_c rv_I0) (congrArg V.int (worth_is p _))) ea_nil))) (by show 3 ≤ 100000; decide)) fun d H6 hd e6 h6 => k d H6 (fresh_back (E3.trans (e4.trans e5)) hd) (E3.trans ((e4.trans e5).trans e6)) h6
end
end Ps
end

section
set_option maxRecDepth 100000
set_option maxHeartbeats 2000000
namespace Ps
open PySem PySem.Spec PyProof.Rows L2 Evl LamX
open Kp430 (Page Candidate Quota)
/-! The best slates: sorted by a key that is a lambda, so a table of code grows. -/
/-- where nothing but a table stood -/
def FreshN (H : Hp) (p : Addr) : Prop := ∀ o, H p = some o → ∃ ps, o = .tbl ps
theorem freshN_none {H : Hp} {p : Addr} (h : H p = none) : FreshN H p := fun o q => by rw [h] at q; cases q
theorem freshN_back {H H1 : Hp} {p : Addr} (e : ExtN H H1) (h : FreshN H1 p) : FreshN H p := fun o ho => by
  by_cases n : ∃ ps, o = .tbl ps
  · exact n
  · exact h o (e p o ho fun ps z => n ⟨ps, z⟩)
/-- a promise that hands back a new list; tables may have grown -/
def RetLT (Tb : List (Addr × Str)) (xs : List V) (H : Hp) (Q : VK) : Prop := ∀ p H', FreshN H p → ExtN H H' → Tabs Tb H' → H' p = some (.lst xs) → Q (.ref p) H'
def spLT (Tb : List (Addr × Str)) (R : List V → Hp → List V → Prop) : Sp := fun vs H Q _ => ∃ xs, R vs H xs ∧ Tabs Tb H ∧ RetLT Tb xs H Q
theorem RetLT.ret {Tb : List (Addr × Str)} {xs : List V} {H : Hp} {Q : VK} (hT : Tabs Tb H) (k : RetLT Tb xs H Q) : RetL xs H Q := fun p H' hp e h => k p H' (freshN_none hp) (ExtN.of e) (hT.ext e) h
theorem RetLT.later {Tb : List (Addr × Str)} {xs : List V} {H H1 : Hp} {Q : VK} (e : ExtN H H1) (k : RetLT Tb xs H Q) : RetLT Tb xs H1 Q := fun p H' hp e' hT h => k p H' (freshN_back e hp) (e.trans e') hT h
theorem exN {H H' : Hp} (e : Ex H H') : ExtN H H' := ExtN.of e
theorem exN_l {H H' : Hp} (e : ExtN H H') {p : Addr} {xs : List V} (h : H p = some (.lst xs)) : H' p = some (.lst xs) := e _ _ h fun _ z => by cases z
theorem exN_t {H H' : Hp} (e : ExtN H H') {p : Addr} {xs : List V} (h : H p = some (.tup xs)) : H' p = some (.tup xs) := e _ _ h fun _ z => by cases z
theorem exN_i {H H' : Hp} (e : ExtN H H') {p c x : Addr} {fs : List (Str × V)} (h : H p = some (.ins c x fs)) : H' p = some (.ins c x fs) := e _ _ h fun _ z => by cases z
theorem cut_to (xs : List V) (n : Nat) : cutV xs none (some (n : Int)) = xs.take n := by
  unfold cutV
  rw [HT.sIx_nat, HT.sIx_none, List.drop_zero, Nat.sub_zero]
  by_cases h : n ≤ xs.length
  · rw [Nat.min_eq_left h]
  · rw [Nat.min_eq_right (by omega), List.take_of_length_le (Nat.le_refl _), List.take_of_length_le (by omega)]
section
variable {P : Program} {w : World} {K : PySem.W.Frag} {mg : Str → Option Value} {base : Heap} {CC CP CS : Addr} {σ : L2.St} {H : Hp} {D : Ends} {a : Addr} {L : Lay} {p : Page} {tp tc tl te ta tb tx : TE} {tz : TS} {Tb : List (Addr × Str)}
/-- i = sorted(l, key=..)[:n] -/
theorem q_sortCut {i n : Nat} {tq : TA} {tlo thi : TO} {l : Addr} {bs : List (Addr × Int)} (hte : EvA tq σ H [.ref l]) (hT : Tabs Tb H) (hl : H l = some (.lst (refs1 bs))) (hbs : ∀ b ∈ bs, ∃ w, H b.1 = some (.tup [.int b.2, w])) (h1 : ∀ H1, EvO tlo σ H1 none) (h2 : ∀ H1, EvO thi σ H1 (some (n : Int)))
    (k : ∀ d H1, ExtN H H1 → Tabs Tb H1 → H1 d = some (.lst ((refs1 (turned bs)).take n)) → tz D (σ.set i (some (.ref d))) H1) : tSeq (tAsg (tSl (rSlL K) (tSortL K Tb tq) tlo thi) (gName i)) tz D σ H :=
  hte H (Ex.refl H) _ fun H1 e1 => ⟨l, bs, rfl, hT.ext e1, fun H2 e2 hT2 => ⟨sq_of (exN_l e2 (e1 _ _ hl)), fun b hb => by
    obtain ⟨w, hw⟩ := hbs b hb
    exact ⟨w, st_of (exN_t e2 (e1 _ _ hw))⟩, fun q hq => h1 _ _ (Ex.refl _) _ fun H4 e4 => h2 _ _ (Ex.refl _) _ fun H5 e5 => ⟨q, _, rfl, sq_of ((e4.trans e5) _ _ upd_same), fun d hd => by
      have ex : Ex H2 (upd H5 d (.lst (cutV (refs1 (turned bs)) none (some (n : Int))))) := ((Ex.new hq).trans (e4.trans e5)).trans (Ex.new hd)
      refine k d _ ((exN e1).trans (e2.trans (exN ex))) (hT2.ext ex) ?_
      rw [cut_to]
      exact upd_same⟩⟩⟩
/-- the slates that were found, with where they stand, ordered -/
abbrev sortedZ (p : Page) (ts : List Addr) (ss : List (List Nat)) : List (Addr × List Nat) := (ts.zip ss).mergeSort fun x y => leS p x.2 y.2
theorem sortedZ_turned (p : Page) (ts : List Addr) (ss : List (List Nat)) : refs1 (turned ((ts.zip ss).map fun x => (x.1, ((Kp430.value p x.2 : Nat) : Int)))) = (sortedZ p ts ss).map fun x => V.ref x.1 := by
  unfold turned sortedZ
  rw [← List.map_mergeSort (r := fun x y => leS p x.2 y.2) (f := fun x : Addr × List Nat => (x.1, ((Kp430.value p x.2 : Nat) : Int))) (fun x _ y _ => rfl)]
  unfold refs1
  rw [List.map_map]
  rfl
theorem sortedZ_best {p : Page} {ts : List Addr} (h : ts.length = (Kp430.feasible p).length) (n : Nat) : ((sortedZ p ts (Kp430.feasible p)).take n).map (·.2) = Kp430.best p n := by
  rw [best_ranked, ranked_sort, List.map_take]
  congr 1
  unfold sortedZ
  rw [List.map_mergeSort (s := leS p) (fun x _ y _ => rfl), List.map_snd_zip (by omega)]
/-- what is told of these slates -/
abbrev toldS (p : Page) (l : List (List Nat)) : List Nat := l.flatMap fun s => Kp430.value p s :: s
theorem told_len {p : Page} : ∀ {l : List (List Nat)}, (∀ s ∈ l, s.length ≤ 5) → (toldS p l).length ≤ 6 * l.length
  | [], _ => Nat.le_refl _
  | s :: l, h => by
    have h1 := h s (List.mem_cons_self ..)
    have h2 := told_len (p := p) fun t ht => h t (List.mem_cons_of_mem _ ht)
    unfold toldS at *
    rw [List.flatMap_cons, List.length_append, List.length_cons, List.length_cons]
    omega
abbrev s_best : Stmt := topS 81
theorem sc_best : FnScope ["page", "count", "found", "first", "told", "reached", "slate"] ["page", "count"] (defScope s_best) := ⟨rfl, rfl, rfl, by decide +kernel, rfl, by decide +kernel, by decide +kernel⟩
theorem ok_best {c Pt : Addr} (T : Txt K mg CC CP CS) (F : FunAtC K mg "best" s_best ["page", "count"] c) (TB : TabB base mg c Pt) (hmT : (Pt, lamQ "best") ∈ Tb) (hu : ∀ p ∈ Tb, p.1 = Pt → p.2 = lamQ "best") (D_feasible_slates : DefAt P w K mg base 5 "feasible_slates" ["page"] (spFound CC CP)) :
    DefAt P w K mg base 6 "best" ["page", "count"] (spLT Tb (rNum CC CP .best)) := by
  obtain ⟨f, fd, FF, hm, hb⟩ := F.ex
  refine ⟨f, fd, FF.ok sc_best (fun vs H Q E h => ?_) (fun A outer s H vs Q E hr h => ⟨_, (pss_cons (ps_if (PW.pt (pw_or (pt_cmpR op_lt (pv 1) pe_int (nomark _)) (pw_or1 (pt_cmpR op_gt (pv 1) (pe_gi T.MOST_BEST) (nomark _))))) (pss_one (ps_ret (pe_lst (pa_cons (pe_gi T.OUTSIDE_LIMITS) pa_nil)))) pss_nil)
      (pss_cons (ps_set (i := 2) sc_best.nd rfl (Or.inl rfl) (pe_cd D_feasible_slates (hr.mono (by decide)) pass0 (pa_cons (pv 0) pa_nil)))
      (pss_cons (ps_if (pt_not (truK (K := K) (pv 2))) (pss_one (ps_ret (pe_lst (pa_cons (pe_gi T.NOT_THERE) pa_nil)))) pss_nil)
      (pss_cons (ps_set (i := 3) sc_best.nd rfl (Or.inl rfl) (pe_slice (slL (K := K)) (pe_sortKey (K := K) (T := Tb) (k := 0) TB (by rfl) hmT hu (by rfl) (by decide +kernel) (by decide +kernel) (by rfl) (by rfl) (by rfl) (by rfl) (by decide) (fun _ _ _ _ _ _ => rfl) (hr.mono (by decide)) T.sorted (pa_cons (pv 2) pa_nil)) po_none (po_some (pv 1))))
      (pss_cons (ps_set (i := 4) sc_best.nd rfl (Or.inl rfl) (pe_lst (pa_cons (pe_callB (lenK (K := K)) (by rfl) T.len (by decide +kernel) (pa_cons (pv 3) pa_nil)) pa_nil)))
      (pss_cons (ps_for PassesOwn.never rfl (wList (K := K) (pv 3)) (gTupK (K := K) (n := 2) (pgs_cons (pg_name (i := 5) sc_best.nd rfl (Or.inl rfl)) (pgs_cons (pg_name (i := 6) sc_best.nd rfl (Or.inl rfl)) pgs_nil)))
        (pss_cons (ps_expr (bmK (K := K) PySem.F.plainAttrs_list PySem.F.slot_list_append PySem.F.type_list_append mt_append (pv 4) (pa_cons (pv 5) pa_nil)))
      (pss_one (ps_expr (bmK (K := K) PySem.F.plainAttrs_list PySem.F.slot_list_extend PySem.F.type_list_extend mt_extend (pv 4) (pa_cons (pv 6) pa_nil))))))
      (pss_one (ps_ret (pv 4))))))))), ?_⟩), hm, FF.kp, hb⟩
  · obtain ⟨z, ⟨_, _, _, rfl, _⟩, _⟩ := h
    rfl
  · obtain ⟨z, ⟨a, p, n, rfl, hp, wf, rfl⟩, hTb, k⟩ := h
    have hst : (Kp430.step (some p) (.best n)).2 = if n < 1 ∨ 5 < n then Kp430.single (-22) else if (Kp430.best p n).isEmpty then Kp430.single (-33) else Kp430.natResult (Kp430.best p n).length ((Kp430.best p n).flatMap fun s => Kp430.value p s :: s) := rfl
    rw [hst] at k
    have hw5 := wf.w5
    refine q_when (b := decide (n < 1) || decide (5 < n)) (et_or (et_test (ev_is (ev_op (ev_var rfl) ev_c rv_I0) (by congr 1; rw [decide_eq_decide]; show (n : Int) < 1 ↔ _; omega))) fun _ => et_test (ev_is (ev_op (ev_var rfl) ev_c rv_I0) (by congr 1; rw [decide_eq_decide]; show (n : Int) > 5 ↔ _; omega))) (fun hb H1 e1 => ?_) (fun hb H1 e1 => ?_)
    · rw [Bool.or_eq_true, decide_eq_true_eq, decide_eq_true_eq] at hb
      rw [if_pos hb] at k
      exact retE ev_c e1 (k.ret hTb)
    · rw [Bool.or_eq_false_iff, decide_eq_false_iff_not, decide_eq_false_iff_not] at hb
      rw [if_neg (by omega)] at k
      refine q_found (ef_cd (epg_of (ev_var rfl) (hp.mono e1)) wf) fun d ts H2 hd e2 hF => ?_
      have E2 := e1.trans e2
      refine q_when (ev_noF (ev_var rfl) hF) (fun hb H3 e3 => ?_) (fun hb H3 e3 => ?_)
      · have hem : (Kp430.best p n).isEmpty = true := by
          rw [best_ranked, List.isEmpty_iff.mp hb]
          show (List.take n []).isEmpty = true
          rw [List.take_nil]
          rfl
        rw [if_pos hem] at k
        exact retE ev_c (E2.trans e3) (k.ret hTb)
      · have E3 := E2.trans e3
        have hne : Kp430.feasible p ≠ [] := fun z => by rw [List.isEmpty_iff.mpr z] at hb; cases hb
        have hF3 := hF.mono e3
        have hlt : ts.length = (Kp430.feasible p).length := hF.ts.1
        have hbest := sortedZ_best (p := p) hlt n
        have hlen : ((sortedZ p ts (Kp430.feasible p)).take n).length = (Kp430.best p n).length := by rw [← hbest, List.length_map]
        have hn5 : (Kp430.best p n).length ≤ 5 := by
          rw [← hlen, List.length_take]; omega
        have hem : ¬ (Kp430.best p n).isEmpty = true := by
          rw [List.isEmpty_iff, ← List.length_eq_zero_iff, ← hlen, List.length_take, List.length_mergeSort, List.length_zip]
          have : 0 < (Kp430.feasible p).length := List.length_pos_iff.mpr hne
          omega
        rw [if_neg hem] at k
        refine q_sortCut (n := n) (bs := (ts.zip (Kp430.feasible p)).map fun x => (x.1, ((Kp430.value p x.2 : Nat) : Int))) (ea_cons (ev_var rfl) ea_nil) (hTb.ext E3) (by
            show _ = some (HO.lst (refs1 _))
            unfold refs1
            rw [List.map_map]
            show _ = some (HO.lst ((ts.zip (Kp430.feasible p)).map fun x => V.ref x.1))
            rw [zip_refs hlt]
            exact hF3.ls) (fun b hb => by
            obtain ⟨x, hx, rfl⟩ := List.mem_map.mp hb
            obtain ⟨l, q1, _⟩ := hF3.zip_at hx
            exact ⟨_, q1⟩) (fun _ => eo_none) (fun _ => eo_some (ev_var rfl)) fun fa H4 e4 hT4 h4 => ?_
        rw [sortedZ_turned, ← List.map_take] at h4
        have hM : ∀ x ∈ (sortedZ p ts (Kp430.feasible p)).take n, FndT p H4 x.1 x.2 ∧ x.2.length ≤ 5 := fun x hx => by
          have hx2 := List.mem_of_mem_take hx
          rw [List.mem_mergeSort] at hx2
          obtain ⟨l, q1, q2⟩ := hF3.zip_at hx2
          have hfe := feasible_mem (List.of_mem_zip hx2).2
          exact ⟨⟨l, exN_t e4 q1, exN_l e4 q2⟩, by rw [(feas_iff.mp hfe).1]; exact hw5⟩
        have k4 := k.later ((exN E3).trans e4)
        clear k
        have hRA := hbest
        generalize sortedZ p ts (Kp430.feasible p) = M at *
        generalize hMt : M.take n = R at *
        refine q_asgL (el_lst (ea_cons (ev_lenS (es_of (ev_var rfl) (sq_of h4))) ea_nil) (by show 1 ≤ 100000; decide)) fun lo H5 hlo e5 h5 => ?_
        rw [List.length_map, hlen] at h5
        refine q_forL (xs := R.map fun x => V.ref x.1) (ev_var rfl) (sq_of (e5 _ _ h4)) (fun i σ' H' => ∃ v5 v6, σ' = [some (.ref a), some (nV n), some (.ref d), some (.ref fa), some (.ref lo), v5, v6] ∧ Ex H4 H' ∧ H' lo = some (.lst (((Kp430.best p n).length :: toldS p ((R.take i).map (·.2))).map nV)))
          (fun H6 e6 => ⟨none, none, rfl, e5.trans e6, e6 _ _ h5⟩) (fun i σ' H' _ ⟨_, _, _, q, _⟩ => sq_of (q _ _ h4)) ?_ ?_
        · rintro i x σ' H' hi ⟨v5, v6, rfl, eH, hl⟩
          obtain ⟨x, hx, rfl⟩ := getE_map hi
          have hxm := List.mem_of_getElem? hx
          obtain ⟨⟨l, q1, q2⟩, hx5⟩ := hM x hxm
          have stp : R.take (i + 1) = R.take i ++ [x] := by rw [List.take_add_one, hx]; rfl
          have hsz : (toldS p ((R.take i).map (·.2))).length ≤ 30 := by
            refine Nat.le_trans (told_len fun s hs => ?_) ?_
            · obtain ⟨y, hy, rfl⟩ := List.mem_map.mp hs
              exact (hM y (List.mem_of_mem_take hy)).2
            · rw [List.length_map]
              have := List.length_take_le' i R
              omega
          refine g_pair (eH _ _ q1) ?_
          refine seq_of (s_app hl (ev_var (by rfl)) (ev_var (by rfl)) (by rw [List.length_map, List.length_cons]; omega) fun H6 e6 => ?_)
          have hnl : l ≠ lo := fun z => by rw [z] at q2; rw [q2] at hlo; cases hlo
          refine s_extK upd_same (ev_var (by rfl)) (ek_of (ev_var (by rfl)) (by rw [upd_ne hnl]; exact (eH.trans e6) _ _ q2)) (by rw [List.length_append, List.length_map, List.length_cons, List.length_map]; show _ + 1 + _ ≤ 100000; omega) fun H7 e7 => ⟨_, _, rfl, ?_, ?_⟩
          · exact Ex.mut ((Ex.mut (eH.trans e6) hlo).trans e7) hlo
          · rw [upd_same, stp]
            congr 2
            rw [List.map_append]
            unfold toldS
            rw [List.flatMap_append]
            simp
        · rintro σ' H' ⟨v5, v6, rfl, eH, hl⟩
          rw [List.length_map, List.take_length, hbest] at hl
          refine s_ret (ev_var rfl) fun H6 e6 => k4 lo H6 (freshN_none hlo) (exN (eH.trans e6)) (hT4.ext (eH.trans e6)) ?_
          rw [e6 _ _ hl]
          show _ = some (HO.lst ((((Kp430.best p n).length : Int) :: ((Kp430.best p n).flatMap fun s => Kp430.value p s :: s).map fun n : Nat => (n : Int)).map V.int))
          rw [List.map_cons, List.map_cons, ints_nats]
end
end Ps
end

section
set_option maxRecDepth 100000
set_option maxHeartbeats 2000000
namespace Ps
open PySem PySem.Spec PyProof.Rows L2 Evl LamX NdefX
open Kp430 (Page Candidate Quota)
/-! Greedy slates and coverings. -/
theorem argMax_mem (key : Nat → Nat) : ∀ {l : List Nat} {c : Nat}, Kp430.argMax key l = some c → c ∈ l
  | [], c, h => by cases h
  | d :: l, c, h => by
    have e : Kp430.argMax key (d :: l) = match Kp430.argMax key l with
      | none => some d
      | some f => if key d < key f then some f else some d := rfl
    rw [e] at h
    cases q : Kp430.argMax key l with
    | none => rw [q] at h; cases h; exact List.mem_cons_self ..
    | some f =>
      rw [q] at h
      have h : (if key d < key f then some f else some d) = some c := h
      split at h
      · cases h; exact List.mem_cons_of_mem _ (argMax_mem key q)
      · cases h; exact List.mem_cons_self ..
theorem argMax_at (key : Nat → Nat) : ∀ (l : List Nat) (i c : Nat), l[i]? = some c → (∀ j d, l[j]? = some d → key d ≤ key c ∧ (j < i → key d < key c)) → Kp430.argMax key l = some c
  | [], i, c, h, _ => by simp at h
  | d :: l, 0, c, h, k => by
    cases h
    have e : Kp430.argMax key (d :: l) = match Kp430.argMax key l with
      | none => some d
      | some f => if key d < key f then some f else some d := rfl
    rw [e]
    cases q : Kp430.argMax key l with
    | none => rfl
    | some f =>
      obtain ⟨j, hj, z⟩ := List.getElem_of_mem (argMax_mem key q)
      have := (k (j + 1) f (by rw [List.getElem?_cons_succ, List.getElem?_eq_getElem hj, z])).1
      show (if key d < key f then some f else some d) = some d
      rw [if_neg (by omega)]
  | d :: l, i + 1, c, h, k => by
    have e : Kp430.argMax key (d :: l) = match Kp430.argMax key l with
      | none => some d
      | some f => if key d < key f then some f else some d := rfl
    rw [e, argMax_at key l i c (by rw [List.getElem?_cons_succ] at h; exact h) fun j f hj => by
      obtain ⟨h1, h2⟩ := k (j + 1) f (by rw [List.getElem?_cons_succ]; exact hj)
      exact ⟨h1, fun q => h2 (by omega)⟩]
    have := (k 0 d rfl).2 (Nat.succ_pos _)
    show (if key d < key c then some c else some d) = some c
    rw [if_pos this]
/-- what the greedy slate can take next -/
def gOpts (p : Page) (s : List Nat) : List Nat := (Kp430.all p).filter fun c => !s.contains c && (!(p.pins.filterMap id).contains c || Kp430.pinAt p s.length == some c) && Kp430.isPossible p (s ++ [c])
theorem greedy_step (p : Page) (n : Nat) (s : List Nat) : Kp430.greedyFrom p (n + 1) s = match Kp430.argMax (fun c => Kp430.value p (s ++ [c])) (gOpts p s) with
  | none => s
  | some c => Kp430.greedyFrom p n (s ++ [c]) := rfl
theorem gOpts_mem {p : Page} {s : List Nat} {c : Nat} (h : c ∈ gOpts p s) : c < p.candidates.length ∧ c ∉ s := by
  unfold gOpts at h
  obtain ⟨h1, h2⟩ := List.mem_filter.mp h
  rw [Bool.and_eq_true, Bool.and_eq_true] at h2
  exact ⟨List.mem_range.mp h1, by simpa using h2.1.1⟩
theorem opts_none {p : Page} {s : List Nat} (n : Nat) (h : gOpts p s = []) : Kp430.greedyFrom p n s = s := by
  cases n with
  | zero => rfl
  | succ n => rw [greedy_step, h]; rfl
theorem greedy_in {p : Page} : ∀ (n : Nat) (s : List Nat), (∀ c ∈ s, c < p.candidates.length) → (∀ c ∈ Kp430.greedyFrom p n s, c < p.candidates.length) ∧ (Kp430.greedyFrom p n s).length ≤ s.length + n
  | 0, s, h => ⟨h, Nat.le_refl _⟩
  | n + 1, s, h => by
    rw [greedy_step]
    cases q : Kp430.argMax (fun c => Kp430.value p (s ++ [c])) (gOpts p s) with
    | none => exact ⟨h, by show s.length ≤ _; omega⟩
    | some c =>
      have hc := (gOpts_mem (argMax_mem _ q)).1
      obtain ⟨h1, h2⟩ := greedy_in n (s ++ [c]) fun d hd => by
        rcases List.mem_append.mp hd with hd | hd
        · exact h d hd
        · rw [List.mem_singleton.mp hd]; exact hc
      rw [List.length_append, List.length_singleton] at h2
      exact ⟨h1, by show (Kp430.greedyFrom p n (s ++ [c])).length ≤ _; omega⟩
theorem pin_opt (p : Page) (c k : Nat) : (!(p.pins.filterMap id).contains c || Kp430.pinAt p k == some c) = !pinElse p c k := by
  unfold pinElse
  have e1 : (p.pins.filterMap id).contains c = decide (some c ∈ p.pins) := by
    rw [Bool.eq_iff_iff, List.contains_iff_mem, decide_eq_true_eq, List.mem_filterMap]
    constructor
    · rintro ⟨o, ho, e⟩
      have e : o = some c := e
      exact e ▸ ho
    · intro h
      exact ⟨some c, h, rfl⟩
  have e2 : (Kp430.pinAt p k == some c) = decide (oV (Kp430.pinAt p k) = nV c) := by
    cases Kp430.pinAt p k with
    | none => rfl
    | some d =>
      show (some d == some c) = decide (nV d = nV c)
      rw [Bool.eq_iff_iff, beq_iff_eq, decide_eq_true_eq]
      constructor
      · intro q; cases q; rfl
      · intro q
        injection q with q
        congr 1
        omega
  rw [e1, e2, Bool.not_and, Bool.not_not]
section
variable {P : Program} {w : World} {K : PySem.W.Frag} {mg : Str → Option Value} {base : Heap} {CC CP CS : Addr} {σ : L2.St} {H : Hp} {D : Ends} {a : Addr} {L : Lay} {p : Page} {tp tc tl te ta tb tx : TE} {tz : TS} {Tb : List (Addr × Str)}
def LstT {α : Type} (g : α → List V) (H : Hp) (t : Addr) (x : α) : Prop := H t = some (.lst (g x))
theorem LstT.mono {α : Type} {g : α → List V} {H H' : Hp} {t : Addr} {x : α} (h : LstT g H t x) (e : Ex H H') : LstT g H' t x := e _ _ h
/-- to a new list of lists -/
def EvEach {α : Type} (g : α → List V) (te : TE) (σ : L2.St) (H : Hp) (l : List α) : Prop := ∀ H1, Ex H H1 → ∀ Q : VK, (∀ d ts H2, H1 d = none → Ex H1 H2 → H2 d = some (.lst (ts.map V.ref)) → Each (LstT g) H2 ts l → (∀ t ∈ ts, H1 t = none) → Q (.ref d) H2) → te σ H1 Q
/-- a new list for each of a list's -/
theorem el_lcN {j : Nat} {vs : List Nat} {α : Type} {l : List α} {r : α → V} {g : α → List V} (h : EvS K tl σ H (l.map r)) (hz : l.length ≤ 40000) (hw : ∀ x, wipe ((wipe σ vs).set j (some x)) vs = wipe σ vs)
    (he : ∀ (a : α) H1, Ex H H1 → a ∈ l → EvL te ((wipe σ vs).set j (some (r a))) H1 (g a)) : EvEach g (tLc (iList K tl) (gName j) tYes te vs) σ H l := fun H0 e Q q => h H0 e _ fun a H1 e1 hs => ⟨a, rfl, ⟨_, hs⟩, fun D hD => by
  refine lc_it walk_list (fun i H' => Ex H1 H' ∧ ∃ ts, H' D = some (.lst (ts.map V.ref)) ∧ Each (fun H' t x => t ≠ D ∧ H' t = some (.lst (g x))) H' ts (l.take i) ∧ ∀ t ∈ ts, H1 t = none) ⟨Ex.new hD, [], upd_same, by rw [List.take_zero]; exact Each.nil, fun _ h => nomatch h⟩ (fun i H' _ q => ex_l q.1 hs) ?_ ?_
  · rintro i x H2 H3 hi ⟨e2, ts, hts, hE, hN⟩ ⟨rfl, hx⟩
    obtain ⟨y, hy, rfl⟩ := getE_map hx
    have hm := List.mem_of_getElem? hy
    have hil : i < l.length := (List.getElem?_eq_some_iff.mp hy).1
    have stp : l.take (i + 1) = l.take i ++ [y] := by rw [List.take_add_one, hy]; rfl
    refine ⟨hw _, ?_⟩
    refine he y H3 (e.trans (e1.trans e2)) hm H3 (Ex.refl _) _ fun d H4 hd e4 h4 => ⟨_, e4 _ _ hts, sz_lt (by have := hE.1; rw [List.length_take] at this; rw [List.length_map]; omega), Ex.mut (e2.trans e4) hD, ts ++ [d], by rw [upd_same, List.map_append]; rfl, ?_, fun t ht => by
      rcases List.mem_append.mp ht with ht | ht
      · exact hN t ht
      · rw [List.mem_singleton.mp ht]; exact fresh_back e2 hd⟩
    have nd : d ≠ D := fun z => by rw [z, hts] at hd; cases hd
    rw [stp]
    exact Each.snoc (hE.imp fun t s _ _ ⟨q1, q2⟩ => ⟨q1, by rw [upd_ne q1]; exact e4 _ _ q2⟩) ⟨nd, by rw [upd_ne nd]; exact h4⟩
  · rintro H' ⟨e2, ts, hts, hE, hN⟩
    rw [List.length_map, List.take_length] at hE
    exact q D ts H' (fresh_back e1 hD) (e1.trans e2) hts (hE.imp fun t s _ _ q => q.2) fun t ht => fresh_back e1 (hN t ht)⟩
theorem q_asgEach {i : Nat} {α : Type} {l : List α} {g : α → List V} (h : EvEach g te σ H l) (k : ∀ d ts H1, H d = none → Ex H H1 → H1 d = some (.lst (ts.map V.ref)) → Each (LstT g) H1 ts l → (∀ t ∈ ts, H t = none) → tz D (σ.set i (some (.ref d))) H1) : tSeq (tAsg te (gName i)) tz D σ H := h H (Ex.refl H) _ k
/-- i = max(l, key=..) -/
theorem s_maxKey {i : Nat} {tq : TA} {N : List Str} {js : List Nat} {l : Addr} {as : List Addr} (key : Nat → Int) (hte : EvA tq σ H [.ref l]) (hT : Tabs Tb H) (hl : H l = some (.lst (as.map V.ref))) (hne : 0 < as.length) (hbody : ∀ H1, ExtN H H1 → ∀ i a, as[i]? = some a → Ev tb (startF N [.ref a] (js.map (slotAt σ))) H1 (.int (key i)))
    (k : ∀ i' a H1, as[i']? = some a → (∀ j, j < as.length → key j ≤ key i' ∧ (j < i' → key j < key i')) → ExtN H H1 → Tabs Tb H1 → D.nx (σ.set i (some (.ref a))) H1) : tAsg (tKeyL K Tb N js tb tq rMaxKey) (gName i) D σ H :=
  hte H (Ex.refl H) _ fun H1 e1 => ⟨l, as, key, rfl, sq_of (e1 _ _ hl), hT.ext e1, fun H2 e2 hT2 => ⟨sq_of (exN_l e2 (e1 _ _ hl)), fun i' a H3 ha e3 => hbody H3 ((exN e1).trans (e2.trans (exN e3))) i' a ha H3 (Ex.refl _) _ fun H4 e4 => ⟨rfl, e4⟩, hne, fun i' a H3 ha hk e3 =>
    k i' a H3 ha hk ((exN e1).trans (e2.trans (exN e3))) (hT2.ext e3)⟩⟩
theorem q_maxKey {i : Nat} {tq : TA} {N : List Str} {js : List Nat} {l : Addr} {as : List Addr} (key : Nat → Int) (hte : EvA tq σ H [.ref l]) (hT : Tabs Tb H) (hl : H l = some (.lst (as.map V.ref))) (hne : 0 < as.length) (hbody : ∀ H1, ExtN H H1 → ∀ i a, as[i]? = some a → Ev tb (startF N [.ref a] (js.map (slotAt σ))) H1 (.int (key i)))
    (k : ∀ i' a H1, as[i']? = some a → (∀ j, j < as.length → key j ≤ key i' ∧ (j < i' → key j < key i')) → ExtN H H1 → Tabs Tb H1 → tz D (σ.set i (some (.ref a))) H1) : tSeq (tAsg (tKeyL K Tb N js tb tq rMaxKey) (gName i)) tz D σ H :=
  s_maxKey (D := { D with nx := tz D }) key hte hT hl hne hbody k
theorem PageL.later {H H' : Hp} (e : ExtN H H') {a : Addr} {p : Page} (h : PageAt CC CP H a p) : PageAt CC CP H' a p := by
  obtain ⟨L, h⟩ := h
  exact ⟨L, exN_i e h.ins, exN_l e h.hw, exN_l e h.hc, h.hcl, fun i c k h1 h2 => ⟨exN_i e (h.hca i c k h1 h2).ins, exN_l e (h.hca i c k h1 h2).tps⟩, exN_l e h.hq, h.hql, fun i q k h1 h2 => exN_t e (h.hqa i q k h1 h2), exN_l e h.hf, h.hfl, fun i q k h1 h2 => exN_t e (h.hfa i q k h1 h2), exN_l e h.hp⟩
def rOpts (K : PySem.W.Frag) (CC CP : Addr) : List V → Hp → List V → Prop := fun vs H xs => ∃ a l p ns, Asked K CC CP vs H a l p ns ∧ ns.length < p.weights.length ∧ H l = some (.lst (ns.map nV)) ∧ xs = (gOpts p ns).map nV
theorem asked_snoc {a q : Addr} {ns : List Nat} {c : Nat} (hp : PageAt CC CP H a p) (wf : Wf p) (hin : ∀ n ∈ ns, n < p.candidates.length) (hl : ns.length < p.weights.length) (hc : c < p.candidates.length) (hq : H q = some (.lst ((ns ++ [c]).map nV))) : Asked K CC CP [.ref a, .ref q] H a q p (ns ++ [c]) :=
  ⟨rfl, hp, wf, sq_of hq, fun n hn => by
    rcases List.mem_append.mp hn with h | h
    · exact hin n h
    · rw [List.mem_singleton.mp h]; exact hc, by rw [List.length_append, List.length_singleton]; omega⟩
abbrev s_options_behind : Stmt := topS 64
theorem sc_options_behind : FnScope ["page", "beginning", "options", "candidate"] ["page", "beginning"] (defScope s_options_behind) := ⟨rfl, rfl, rfl, by decide +kernel, rfl, by decide +kernel, by decide +kernel⟩
theorem ok_options_behind (T : Txt K mg CC CP CS) (F : FunAt K mg "options_behind" s_options_behind ["page", "beginning"]) (D_Page_is_pinned_elsewhere : MethAt P w K mg base 1 CP "is_pinned_elsewhere" ["self", "candidate", "position"] (spV (rPinE CC CP))) (D_is_possible : DefAt P w K mg base 3 "is_possible" ["page", "beginning"] (spV (rPoss K CC CP))) :
    DefAt P w K mg base 4 "options_behind" ["page", "beginning"] (spL (rOpts K CC CP)) := by
  obtain ⟨f, fd, FF, hm, hb⟩ := F.ex
  refine ⟨f, fd, FF.ok sc_options_behind (fun vs H Q E h => ?_) (fun cdv A outer s H vs Q E hr h => ⟨_, (pss_cons (ps_set (i := 2) sc_options_behind.nd rfl (Or.inl rfl) (pe_lst pa_nil))
      (pss_cons (ps_for PassesOwn.never rfl (pi_range1 (by rfl) T.range (pa_cons (pe_callB (lenK (K := K)) (by rfl) T.len (by decide +kernel) (pa_cons (fldK (K := K) (pv 0)) pa_nil)) pa_nil)) (pg_name (i := 3) sc_options_behind.nd rfl (Or.inl rfl))
        (pss_cons (ps_if (PW.pt (pw_or (pt_cmpR (inK (K := K)) (pv 3) (pv 1) (by rfl)) (pw_or1 (pt_val (pe_mt D_Page_is_pinned_elsewhere T.cPage (hr.mono (by decide)) pass0 (pv 0) (pa_cons (pv 3) (pa_cons (pe_callB (lenK (K := K)) (by rfl) T.len (by decide +kernel) (pa_cons (pv 1) pa_nil)) pa_nil))))))) (pss_one ps_continue) pss_nil)
      (pss_one (ps_if (pt_val (pe_cd D_is_possible (hr.mono (by decide)) pass0 (pa_cons (pv 0) (pa_cons (pe_op op_cat (pv 1) (pe_lst (pa_cons (pv 3) pa_nil))) pa_nil)))) (pss_one (ps_expr (bmK (K := K) PySem.F.plainAttrs_list PySem.F.slot_list_append PySem.F.type_list_append mt_append (pv 2) (pa_cons (pv 3) pa_nil)))) pss_nil))))
      (pss_one (ps_ret (pv 2))))), ?_⟩), hm, FF.kp, hb⟩
  · obtain ⟨z, ⟨_, _, _, _, ⟨rfl, _⟩, _⟩, _⟩ := h
    rfl
  · obtain ⟨z, ⟨a, l, p, ns, hA, hlt, hl, rfl⟩, k⟩ := h
    obtain rfl := hA.vs
    obtain ⟨L, hp⟩ := hA.pg
    have hcn := hA.wf.cn
    have hw5 := hA.wf.w5
    refine q_asgL (el_lst ea_nil (by show 0 ≤ 100000; decide)) fun o H1 ho e1 h1 => ?_
    refine q_forR1 (n := (p.candidates.length : Int)) (ea_cons (pg_lenC T (hp.mono e1) (ev_var rfl)) ea_nil) ⟨by omega, by omega⟩ (fun i σ' H' => ∃ v3, σ' = [some (.ref a), some (.ref l), some (.ref o), v3] ∧ Ex H H' ∧ H' o = some (.lst (((List.range i).filter fun c => !ns.contains c && (!(p.pins.filterMap id).contains c || Kp430.pinAt p ns.length == some c) && Kp430.isPossible p (ns ++ [c])).map nV)))
      (fun H2 e2 => ⟨none, rfl, e1.trans e2, e2 _ _ h1⟩) ?_ ?_
    · rintro i σ' H' hi ⟨v3, rfl, eH, hO⟩
      have hic : i < p.candidates.length := by omega
      have hA2 := hA.mono eH
      refine q_when (b := ns.contains i || pinElse p i ns.length) (et_or (et_test (ev_is (ev_op (ev_var rfl) (ev_var rfl) (rv_isL (sq_of (eH _ _ hl)) rfl (flat_nats _))) (by rw [inV_nats]))) fun _ => et_B (ev_mt (ev_var rfl) (hp.mono eH).ins pF0_no_is_pinned_elsewhere (ea_cons (ev_var rfl) (ea_cons (ev_is (ev_lenS (es_of (ev_var rfl) (sq_of (eH _ _ hl)))) (by rw [List.length_map])) ea_nil)) fun H2 e2 => ⟨a, p, i, ns.length, rfl, ⟨L, hp.mono (eH.trans e2)⟩, hA.wf, hlt, rfl⟩)) (fun hb H2 e2 => ?_) (fun hb H2 e2 => ?_)
      · refine ⟨_, rfl, eH.trans e2, ?_⟩
        rw [e2 _ _ hO, List.range_succ, List.filter_append]
        have : [i].filter (fun c => !ns.contains c && (!(p.pins.filterMap id).contains c || Kp430.pinAt p ns.length == some c) && Kp430.isPossible p (ns ++ [c])) = [] := by
          rw [List.filter_cons, if_neg ?_]
          · rfl
          · rw [pin_opt]
            intro z
            rw [Bool.and_eq_true, Bool.and_eq_true, Bool.not_eq_true', Bool.not_eq_true'] at z
            rw [z.1.1, z.1.2] at hb
            cases hb
        rw [this, List.append_nil]
      · rw [Bool.or_eq_false_iff] at hb
        refine s_when (b := Kp430.isPossible p (ns ++ [i])) (et_B (ev_cdK (ev_var rfl) (ek_new (EvL.is (el_cc (ek_of (ev_var rfl) ((eH.trans e2) _ _ hl)) (ek_new (el_lst (ea_cons (ev_var rfl) ea_nil) (by show 1 ≤ 100000; decide))) (by rw [List.length_map]; show ns.length + 1 ≤ 100000; omega)) (show _ = (ns ++ [i]).map nV by rw [List.map_append]; rfl))) fun q H3 e3 h3 => ⟨a, q, p, ns ++ [i], asked_snoc ⟨L, hp.mono ((eH.trans e2).trans e3)⟩ hA.wf hA.in_ hlt hic h3, rfl⟩)) (fun hq H3 e3 => ?_) (fun hq H3 e3 => ?_)
        · refine s_app ((e2.trans e3) _ _ hO) (ev_var rfl) (ev_var rfl) (by
            rw [List.length_map]
            have := List.length_filter_le (fun c => !ns.contains c && (!(p.pins.filterMap id).contains c || Kp430.pinAt p ns.length == some c) && Kp430.isPossible p (ns ++ [c])) (List.range i)
            rw [List.length_range] at this
            omega) fun H4 e4 => ⟨_, rfl, Ex.mut (eH.trans (e2.trans (e3.trans e4))) ho, ?_⟩
          rw [upd_same, List.range_succ, List.filter_append]
          have : [i].filter (fun c => !ns.contains c && (!(p.pins.filterMap id).contains c || Kp430.pinAt p ns.length == some c) && Kp430.isPossible p (ns ++ [c])) = [i] := by
            rw [List.filter_cons, if_pos ?_]
            · rfl
            · rw [pin_opt, hb.1, hb.2, hq]; rfl
          rw [this, List.map_append]
          rfl
        · refine ⟨_, rfl, eH.trans (e2.trans e3), ?_⟩
          rw [(e2.trans e3) _ _ hO, List.range_succ, List.filter_append]
          have : [i].filter (fun c => !ns.contains c && (!(p.pins.filterMap id).contains c || Kp430.pinAt p ns.length == some c) && Kp430.isPossible p (ns ++ [c])) = [] := by
            rw [List.filter_cons, if_neg ?_]
            · rfl
            · rw [hq, Bool.and_false]; decide
          rw [this, List.append_nil]
    · rintro σ' H' ⟨v3, rfl, eH, hO⟩
      refine s_ret (ev_var rfl) fun H2 e2 => k o H2 ho (eH.trans e2) ?_
      rw [e2 _ _ hO]
      rfl
def rGreedyS (CC CP : Addr) : List V → Hp → List V → Prop := fun vs H xs => ∃ a p, vs = [.ref a] ∧ PageAt CC CP H a p ∧ Wf p ∧ xs = (Kp430.greedy p).map nV
abbrev s_greedy_slate : Stmt := topS 65
theorem sc_greedy_slate : FnScope ["page", "listed", "longer", "candidate"] ["page"] (defScope s_greedy_slate) := ⟨rfl, rfl, rfl, by decide +kernel, rfl, by decide +kernel, by decide +kernel⟩
theorem ok_greedy_slate {c Pt : Addr} (T : Txt K mg CC CP CS) (F : FunAtC K mg "greedy_slate" s_greedy_slate ["page"] c) (TB : TabB base mg c Pt) (hmT : (Pt, lamQ "greedy_slate") ∈ Tb) (hu : ∀ p ∈ Tb, p.1 = Pt → p.2 = lamQ "greedy_slate") (D_options_behind : DefAt P w K mg base 4 "options_behind" ["page", "beginning"] (spL (rOpts K CC CP)))
    (D_value_of : DefAt P w K mg base 2 "value_of" ["page", "listed"] (spV (rVal K CC CP))) : DefAt P w K mg base 6 "greedy_slate" ["page"] (spLT Tb (rGreedyS CC CP)) := by
  obtain ⟨f, fd, FF, hm, hb⟩ := F.ex
  refine ⟨f, fd, FF.ok sc_greedy_slate (fun vs H Q E h => ?_) (fun A outer s H vs Q E hr h => ⟨_, (pss_cons (ps_set (i := 1) sc_greedy_slate.nd rfl (Or.inr rfl) (pe_lst pa_nil))
      (pss_cons (ps_while PassesOwn.never (pt_cmpR op_lt (pe_callB (lenK (K := K)) (by rfl) T.len (by decide +kernel) (pa_cons (pv 1) pa_nil)) (pe_callB (lenK (K := K)) (by rfl) T.len (by decide +kernel) (pa_cons (fldK (K := K) (pv 0)) pa_nil)) (nomark _))
        (pss_cons (ps_setLc (i := 2) (own := [("candidate", 3)]) rfl sc_greedy_slate.nd rfl rfl (sw_true rfl rfl rfl (by decide +kernel)) (wList (K := K) (pe_cd D_options_behind (hr.mono (by decide)) pass0 (pa_cons (pv 0) (pa_cons (pv 1) pa_nil)))) (blkOk_by (own := [("candidate", 3)]) (N := ["page", "listed", "longer", "candidate"]) (sc := defScope s_greedy_slate) (by decide +kernel)) (fun _ _ _ _ _ => pg_name (i := 3) sc_greedy_slate.nd rfl (Or.inl rfl)) (fun _ _ _ _ _ => pts_nil) (fun _ _ _ _ _ => (pe_op op_cat (pv 1) (pe_lst (pa_cons (pv 3) pa_nil)))))
      (pss_cons (ps_if (pt_not (truK (K := K) (pv 2))) (pss_one (ps_ret (pv 1))) pss_nil)
      (pss_one (ps_set (i := 1) sc_greedy_slate.nd rfl (Or.inr rfl) (pe_maxKey (K := K) (T := Tb) (N := ["beginning", "page"]) (fr := ["page"]) (js := [0]) (k := 2) TB (by rfl) hmT hu (nscope_by (by decide +kernel)) (by rfl) (ndef_free (sc := defScope s_greedy_slate) (fr := ["page"]) (by decide +kernel)) (ndef_fr (sc := defScope s_greedy_slate) (by decide +kernel)) (by rfl) (fun _ _ _ _ _ _ => rfl) (hr.mono (by decide)) (by rfl) T.max (pa_cons (pv 2) pa_nil) (fun q cl c1 f1 A outer s H hr => (pe_cd D_value_of (hr.mono (by decide)) pass0 (pa_cons (pv 1) (pa_cons (pv 0) pa_nil))))))))))
      (pss_one (ps_ret (pv 1))))), ?_⟩), hm, FF.kp, hb⟩
  · obtain ⟨z, ⟨_, _, rfl, _⟩, _⟩ := h
    rfl
  · obtain ⟨z, ⟨a, p, rfl, hp, wf, rfl⟩, hTb, k⟩ := h
    have hcn := wf.cn
    have hw5 := wf.w5
    refine q_asgL (el_lst ea_nil (by show 0 ≤ 100000; decide)) fun l0 H1 hl0 e1 h1 => ?_
    refine q_while (fun m σ' H' => ∃ l s v2 v3, σ' = [some (.ref a), some (.ref l), v2, v3] ∧ ExtN H H' ∧ Tabs Tb H' ∧ FreshN H l ∧ H' l = some (.lst (s.map nV)) ∧ (∀ n ∈ s, n < p.candidates.length) ∧ s.length + m = p.weights.length ∧ Kp430.greedyFrom p m s = Kp430.greedy p) p.weights.length
      ⟨l0, [], none, none, rfl, exN e1, hTb.ext e1, freshN_none hl0, h1, (fun _ h => nomatch h), by rw [List.length_nil, Nat.zero_add], rfl⟩ ?_
    rintro m σ' H' ⟨l, s, v2, v3, rfl, eH, hT', hfl, hl, hin, hm, hgr⟩
    have hpA := PageL.later eH hp
    obtain ⟨L, hpL⟩ := hpA
    refine ⟨decide (s.length < p.weights.length), et_test (ev_is (ev_op (ev_is (ev_lenS (es_of (ev_var rfl) (sq_of hl))) (by rw [List.length_map])) (pg_lenW T hpL (ev_var rfl)) rv_I0) nv_lt), fun hb H2 e2 => ?_, fun hb H2 e2 => ?_⟩
    · have hlt := of_decide_eq_true hb
      obtain ⟨m, rfl⟩ : ∃ m', m = m' + 1 := ⟨m - 1, by omega⟩
      have hol : (gOpts p s).length ≤ 9 := by
        unfold gOpts Kp430.all
        exact Nat.le_trans (List.length_filter_le _ _) (by rw [List.length_range]; exact hcn)
      refine ⟨fun σ2 H3 => ∃ l s v2 v3, σ2 = [some (.ref a), some (.ref l), v2, v3] ∧ ExtN H H3 ∧ Tabs Tb H3 ∧ FreshN H l ∧ H3 l = some (.lst (s.map nV)) ∧ (∀ n ∈ s, n < p.candidates.length) ∧ s.length + m = p.weights.length ∧ Kp430.greedyFrom p m s = Kp430.greedy p, fun σ2 H3 q => ⟨m, Nat.lt_succ_self m, q⟩, ?_⟩
      refine q_asgEach (el_lcN (l := gOpts p s) (r := nV) (g := fun c => (s ++ [c]).map nV) (es_new (el_cd (ea_cons (ev_var rfl) (ea_cons (ev_var rfl) ea_nil)) fun H3 e3 => ⟨a, l, p, s, ⟨rfl, ⟨L, hpL.mono (e2.trans e3)⟩, wf, sq_of ((e2.trans e3) _ _ hl), hin, by omega⟩, hlt, (e2.trans e3) _ _ hl, rfl⟩)) (by omega) (by intro _; rfl)
        fun c H3 e3 hc => EvL.is (el_cc (ek_of (ev_var (by rfl)) ((e2.trans e3) _ _ hl)) (ek_new (el_lst (ea_cons (ev_var (by rfl)) ea_nil) (by show 1 ≤ 100000; decide))) (by rw [List.length_map]; show s.length + 1 ≤ 100000; omega)) (by rw [List.map_append]; rfl)) fun d ts H3 hd e3 h3 hE hN => ?_
      have E3 := e2.trans e3
      refine q_when (b := (gOpts p s).isEmpty) (et_is (et_not (et_tru (es_of (ev_var rfl) (sq_of h3)))) (by
          have := hE.1
          cases hg : gOpts p s with
          | nil =>
            rw [hg] at this
            rw [List.length_eq_zero_iff.mp this]
            rfl
          | cons x r =>
            rw [hg] at this
            cases ts with
            | nil => cases this
            | cons t ts => rfl)) (fun hq H4 e4 => ?_) (fun hq H4 e4 => ?_)
      · rw [opts_none (m + 1) (List.isEmpty_iff.mp hq)] at hgr
        subst hgr
        exact s_ret (ev_var rfl) fun H5 e5 => k l H5 hfl (eH.trans (exN (E3.trans (e4.trans e5)))) (hT'.ext (E3.trans (e4.trans e5))) ((E3.trans (e4.trans e5)) _ _ hl)
      · have E4 := E3.trans e4
        have hne : gOpts p s ≠ [] := fun z => by rw [z] at hq; cases hq
        have hE4 : Each (LstT fun c => (s ++ [c]).map nV) H4 ts (gOpts p s) := hE.imp fun _ _ _ _ q => q.mono e4
        refine s_maxKey (as := ts) (fun i => ((Kp430.value p (s ++ [(gOpts p s).getD i 0]) : Nat) : Int)) (ea_cons (ev_var rfl) ea_nil) (hT'.ext E4) (e4 _ _ h3) (by rw [hE.1]; exact List.length_pos_iff.mpr hne) (fun H5 e5 i t ht => ?_) (fun i t H5 ht hk e5 hT5 => ?_)
        · obtain ⟨c, hc, hq⟩ := hE4.at_ ht
          have hcl := (gOpts_mem (List.mem_of_getElem? hc)).1
          have ec : (gOpts p s).getD i 0 = c := by rw [List.getD_eq_getElem?_getD, hc]; rfl
          show Ev _ _ H5 (.int ((Kp430.value p (s ++ [(gOpts p s).getD i 0]) : Nat) : Int))
          rw [ec]
          exact ev_cd (ea_cons (ev_var (by rfl)) (ea_cons (ev_var (by rfl)) ea_nil)) fun H6 e6 => ⟨a, t, p, s ++ [c], asked_snoc (PageL.later (eH.trans ((exN E4).trans (e5.trans (exN e6)))) hp) wf hin hlt hcl (e6 _ _ (exN_l e5 hq)), rfl⟩
        · obtain ⟨c, hc, hq⟩ := hE4.at_ ht
          have hcl := (gOpts_mem (List.mem_of_getElem? hc)).1
          have ec : (gOpts p s).getD i 0 = c := by rw [List.getD_eq_getElem?_getD, hc]; rfl
          have ham : Kp430.argMax (fun c => Kp430.value p (s ++ [c])) (gOpts p s) = some c := argMax_at _ _ i c hc fun j d hj => by
            have hjl : j < ts.length := by rw [hE.1]; exact (List.getElem?_eq_some_iff.mp hj).1
            obtain ⟨k1, k2⟩ := hk j hjl
            have ej : (gOpts p s).getD j 0 = d := by rw [List.getD_eq_getElem?_getD, hj]; rfl
            rw [ec, ej] at k1 k2
            exact ⟨by omega, fun q => by have := k2 q; omega⟩
          rw [greedy_step, ham] at hgr
          refine ⟨t, s ++ [c], _, _, rfl, eH.trans ((exN E4).trans e5), hT5, ?_, exN_l e5 hq, fun n hn => ?_, by rw [List.length_append, List.length_singleton]; omega, hgr⟩
          · exact freshN_back (eH.trans (exN e2)) (freshN_none (hN t (List.mem_of_getElem? ht)))
          · rcases List.mem_append.mp hn with h | h
            · exact hin n h
            · rw [List.mem_singleton.mp h]; exact hcl
    · have hge := of_decide_eq_false hb
      have : m = 0 := by omega
      subst this
      have : s = Kp430.greedy p := hgr
      subst this
      exact s_ret (ev_var rfl) fun H5 e5 => k l H5 hfl (eH.trans (exN (e2.trans e5))) (hT'.ext (e2.trans e5)) ((e2.trans e5) _ _ hl)
/-- i = a call that hands back a new list, tables grown -/
theorem q_asgLT {R : List V → Hp → List V → Prop} {E : XK} {tq : TA} {i : Nat} {vs xs : List V} (h : EvA tq σ H vs) (hT : Tabs Tb H) (r : ∀ H1, Ex H H1 → R vs H1 xs) (k : ∀ d H1, FreshN H d → ExtN H H1 → Tabs Tb H1 → H1 d = some (.lst xs) → tz D (σ.set i (some (.ref d))) H1) :
    tSeq (tAsg (tCall (spLT Tb R) [] E tq) (gName i)) tz D σ H := h H (Ex.refl H) _ fun H1 e1 => by
  rw [List.append_nil]
  exact ⟨xs, r H1 e1, hT.ext e1, fun p H2 hp e2 hT2 h2 => k p H2 (freshN_back (exN e1) hp) ((exN e1).trans e2) hT2 h2⟩
abbrev s_greedy : Stmt := topS 66
theorem sc_greedy : FnScope ["page", "listed", "feasible"] ["page"] (defScope s_greedy) := ⟨rfl, rfl, rfl, by decide +kernel, rfl, by decide +kernel, by decide +kernel⟩
theorem ok_greedy (T : Txt K mg CC CP CS) (F : FunAt K mg "greedy" s_greedy ["page"]) (D_greedy_slate : DefAt P w K mg base 6 "greedy_slate" ["page"] (spLT Tb (rGreedyS CC CP))) (D_Page_is_slate : MethAt P w K mg base 3 CP "is_slate" ["self", "listed"] (spV (rIsS K CC CP)))
    (D_is_feasible : DefAt P w K mg base 4 "is_feasible" ["page", "slate"] (spV (rFeas K CC CP))) (D_value_of : DefAt P w K mg base 2 "value_of" ["page", "listed"] (spV (rVal K CC CP))) : DefAt P w K mg base 7 "greedy" ["page"] (spLT Tb (rPgA CC CP .greedy)) := by
  obtain ⟨f, fd, FF, hm, hb⟩ := F.ex
  refine ⟨f, fd, FF.ok sc_greedy (fun vs H Q E h => ?_) (fun cdv A outer s H vs Q E hr h => ⟨_, (pss_cons (ps_set (i := 1) sc_greedy.nd rfl (Or.inl rfl) (pe_cd D_greedy_slate (hr.mono (by decide)) pass0 (pa_cons (pv 0) pa_nil)))
      (pss_cons (ps_set (i := 2) sc_greedy.nd rfl (Or.inl rfl) (pe_and (pe_mt D_Page_is_slate T.cPage (hr.mono (by decide)) pass0 (pv 0) (pa_cons (pv 1) pa_nil)) (pe_one (pe_cd D_is_feasible (hr.mono (by decide)) pass0 (pa_cons (pv 0) (pa_cons (pv 1) pa_nil))))))
      (pss_one (ps_ret (pe_op op_cat (pe_lst (pa_cons (pe_callB (lenK (K := K)) (by rfl) T.len (by decide +kernel) (pa_cons (pv 1) pa_nil)) (pa_cons (pe_callTy call_int1 (by rfl) T.int (by decide +kernel) (pa_cons (pv 2) pa_nil)) (pa_cons (pe_cd D_value_of (hr.mono (by decide)) pass0 (pa_cons (pv 0) (pa_cons (pv 1) pa_nil))) pa_nil)))) (pv 1)))))), ?_⟩), hm, FF.kp, hb⟩
  · obtain ⟨z, ⟨_, _, rfl, _⟩, _⟩ := h
    rfl
  · obtain ⟨z, ⟨a, p, rfl, hp, wf, rfl⟩, hTb, k⟩ := h
    have hst : (Kp430.step (some p) .greedy).2 = Kp430.natResult (Kp430.greedy p).length ([if Kp430.isFeasible p (Kp430.greedy p) then 1 else 0, Kp430.value p (Kp430.greedy p)] ++ Kp430.greedy p) := rfl
    rw [hst] at k
    have hw5 := wf.w5
    obtain ⟨gin, glen⟩ := greedy_in (p := p) (Kp430.positions p) [] (fun _ h => nomatch h)
    have glen : (Kp430.greedy p).length ≤ p.weights.length := by
      have : (Kp430.greedy p).length ≤ ([] : List Nat).length + p.weights.length := glen
      rw [List.length_nil] at this
      omega
    have gin : ∀ c ∈ Kp430.greedy p, c < p.candidates.length := gin
    refine q_asgLT (ea_cons (ev_var rfl) ea_nil) hTb (fun H1 e1 => ⟨a, p, rfl, hp.mono e1, wf, rfl⟩) fun l H1 hl e1 hT1 h1 => ?_
    obtain ⟨L, hp1⟩ := PageL.later e1 hp
    generalize Kp430.greedy p = s at *
    have hA : ∀ H2, Ex H1 H2 → Asked K CC CP [.ref a, .ref l] H2 a l p s := fun H2 e2 => ⟨rfl, ⟨L, hp1.mono e2⟩, wf, sq_of (e2 _ _ h1), gin, glen⟩
    refine q_asg (v := .bl (Kp430.isFeasible p s)) (ev_andV (ev_isS T hp1 (sq_of h1) (by omega) (ev_var rfl) (ev_var rfl)) fun hs => ev_cd (ea_cons (ev_var rfl) (ea_cons (ev_var rfl) ea_nil)) fun H2 e2 => ⟨a, l, p, s, hA H2 e2, (slate_in hs).1, rfl⟩) fun H2 e2 => ?_
    refine s_retL (EvL.is (el_cc (ek_new (el_lst (ea_cons (ev_lenS (es_of (ev_var rfl) (sq_of (e2 _ _ h1)))) (ea_cons (ev_intB (ev_var rfl)) (ea_cons (ev_cd (ea_cons (ev_var rfl) (ea_cons (ev_var rfl) ea_nil)) fun H3 e3 => ⟨a, l, p, s, hA H3 (e2.trans e3), rfl⟩) ea_nil))) (by show 3 ≤ 100000; decide))) (ek_of (ev_var rfl) (e2 _ _ h1)) (by rw [List.length_map]; show 3 + _ ≤ 100000; omega)) ?_) fun d H3 hd e3 h3 => k d H3 (freshN_back (e1.trans (exN e2)) (freshN_none hd)) (e1.trans (exN (e2.trans e3))) (hT1.ext (e2.trans e3)) h3
    rw [List.length_map]
    show _ = ((s.length : Int) :: ([if Kp430.isFeasible p s then 1 else 0, Kp430.value p s] ++ s).map fun n : Nat => (n : Int)).map V.int
    cases Kp430.isFeasible p s <;> simp
/-! ### cover -/
theorem cover_len {p : Page} (wf : Wf p) (ns : List Nat) : (Kp430.covered p ns).length ≤ 12 := by
  unfold Kp430.covered
  exact Nat.le_trans (List.length_filter_le _ _) (by rw [List.length_range]; decide)
end
end Ps
end

section
set_option maxRecDepth 100000
set_option maxHeartbeats 2000000
namespace Ps
open PySem PySem.Spec PyProof.Rows L2 Evl LamX NdefX
open Kp430 (Page Candidate Quota)
theorem erase_filter : ∀ {l : List Nat} {i c : Nat}, l.Nodup → l[i]? = some c → l.eraseIdx i = l.filter (fun x => !decide (x = c))
  | [], i, c, _, h => by simp at h
  | d :: l, 0, c, hn, h => by
    cases h
    obtain ⟨h1, h2⟩ := List.nodup_cons.mp hn
    rw [List.eraseIdx_cons_zero, List.filter_cons, if_neg (by simp)]
    refine (List.filter_eq_self.mpr fun x hx => ?_).symm
    have : ¬ x = d := fun z => h1 (z ▸ hx)
    simp [this]
  | d :: l, i + 1, c, hn, h => by
    obtain ⟨h1, h2⟩ := List.nodup_cons.mp hn
    rw [List.getElem?_cons_succ] at h
    have : ¬ d = c := fun z => h1 (z ▸ List.mem_of_getElem? h)
    rw [List.eraseIdx_cons_succ, List.filter_cons, if_pos (by simp [this]), erase_filter h2 h]
theorem first_place {l : List Nat} {i c : Nat} (hn : l.Nodup) (h : l[i]? = some c) : ∀ m, m < i → l[m]? ≠ some c := fun m hm q => by
  obtain ⟨h1, h2⟩ := List.getElem?_eq_some_iff.mp h
  obtain ⟨h3, h4⟩ := List.getElem?_eq_some_iff.mp q
  have := (List.getElem_inj hn).mp (h4.trans h2.symm)
  omega
/-- the candidates that are left -/
def lefts (p : Page) (s : List Nat) : List Nat := (Kp430.all p).filter fun c => !s.contains c
theorem lefts_nodup (p : Page) (s : List Nat) : (lefts p s).Nodup := (List.nodup_range).filter _
theorem lefts_snoc {p : Page} {s : List Nat} {c : Nat} : (lefts p s).filter (fun x => !decide (x = c)) = lefts p (s ++ [c]) := by
  unfold lefts
  rw [List.filter_filter]
  refine List.filter_congr fun x _ => ?_
  by_cases h1 : x ∈ s <;> by_cases h2 : x = c <;> simp [h1, h2]
theorem lefts_mem {p : Page} {s : List Nat} {c : Nat} (h : c ∈ lefts p s) : c < p.candidates.length ∧ c ∉ s := by
  obtain ⟨h1, h2⟩ := List.mem_filter.mp h
  exact ⟨List.mem_range.mp h1, by simpa using h2⟩
theorem lefts_nil {p : Page} : lefts p [] = List.range p.candidates.length := by
  unfold lefts Kp430.all
  exact List.filter_eq_self.mpr fun _ _ => rfl
theorem nodup_le {s : List Nat} {n : Nat} (h1 : s.Nodup) (h2 : ∀ c ∈ s, c < n) : s.length ≤ n := by
  have hp : s.Perm ((List.range n).filter fun c => decide (c ∈ s)) := (List.perm_ext_iff_of_nodup h1 (List.nodup_range.filter _)).mpr fun c => by
    rw [List.mem_filter, decide_eq_true_eq, List.mem_range]
    exact ⟨fun h => ⟨h2 c h, h⟩, fun h => h.2⟩
  have := List.length_filter_le (fun c => decide (c ∈ s)) (List.range n)
  rw [← hp.length_eq, List.length_range] at this
  exact this
theorem map_eraseC {α β : Type} (f : α → β) : ∀ (l : List α) (j : Nat), (l.map f).eraseIdx j = (l.eraseIdx j).map f
  | [], j => by simp
  | a :: l, 0 => rfl
  | a :: l, j + 1 => by rw [List.map_cons, List.eraseIdx_cons_succ, List.eraseIdx_cons_succ, List.map_cons, map_eraseC f l j]
theorem cover_step (p : Page) (n : Nat) (s : List Nat) : Kp430.coverFrom p (n + 1) s = match Kp430.argMax (fun c => (Kp430.covered p (s ++ [c])).length) (lefts p s) with
  | none => s
  | some c => Kp430.coverFrom p n (s ++ [c]) := rfl
theorem cover_none {p : Page} {s : List Nat} (n : Nat) (h : lefts p s = []) : Kp430.coverFrom p n s = s := by
  cases n with
  | zero => rfl
  | succ n => rw [cover_step, h]; rfl
theorem cover_in {p : Page} : ∀ (n : Nat) (s : List Nat), (∀ c ∈ s, c < p.candidates.length) → s.Nodup → (∀ c ∈ Kp430.coverFrom p n s, c < p.candidates.length) ∧ (Kp430.coverFrom p n s).Nodup
  | 0, s, h, h2 => ⟨h, h2⟩
  | n + 1, s, h, h2 => by
    rw [cover_step]
    cases q : Kp430.argMax (fun c => (Kp430.covered p (s ++ [c])).length) (lefts p s) with
    | none => exact ⟨h, h2⟩
    | some c =>
      have hc := lefts_mem (argMax_mem _ q)
      refine cover_in n (s ++ [c]) (fun d hd => ?_) ?_
      · rcases List.mem_append.mp hd with hd | hd
        · exact h d hd
        · rw [List.mem_singleton.mp hd]; exact hc.1
      · exact List.nodup_append.mpr ⟨h2, by simp, fun x hx y hy z => hc.2 (by rw [List.mem_singleton.mp hy] at z; exact z ▸ hx)⟩
section
variable {P : Program} {w : World} {K : PySem.W.Frag} {mg : Str → Option Value} {base : Heap} {CC CP CS : Addr} {σ : L2.St} {H : Hp} {D : Ends} {a : Addr} {L : Lay} {p : Page} {tp tc tl te ta tb tx : TE} {tz : TS} {Tb : List (Addr × Str)}
/-- l.remove(x) -/
theorem s_remI {l : Addr} {ns : List Nat} {c j : Nat} (hl : H l = some (.lst (ns.map nV))) (ha : Ev ta σ H (.ref l)) (h : Ev te σ H (nV c)) (hj : ns[j]? = some c) (hno : ∀ m, m < j → ns[m]? ≠ some c) (k : ∀ H1, Ex H H1 → D.nx σ (upd H1 l (.lst ((ns.eraseIdx j).map nV)))) : tDrop (tBM K "list" rRemI ta (tCons te tNil)) D σ H :=
  ha H (Ex.refl H) _ fun H1 e1 => ⟨Or.inl ⟨rfl, _, sq_of (e1 l _ hl)⟩, h H1 e1 _ fun H2 e2 => ⟨l, ns.map fun n : Nat => (n : Int), (c : Int), j, rfl, rfl, by rw [ints_nats]; exact (e1.trans e2) _ _ hl, by rw [List.getElem?_map, hj]; rfl, fun m hm q => by
    rw [List.getElem?_map] at q
    obtain ⟨d, hd, e⟩ := Option.map_eq_some_iff.mp q
    exact hno m hm (by rw [hd]; congr 1; omega), by
    rw [show (ns.map fun n : Nat => (n : Int)).eraseIdx j = (ns.eraseIdx j).map fun n : Nat => (n : Int) from map_eraseC _ _ _, ints_nats]
    exact k H2 (e1.trans e2)⟩⟩
theorem exN_mut {H0 H1 : Hp} {l : Addr} {o : HO} (e : ExtN H0 H1) (h : H0 l = none) : ExtN H0 (upd H1 l o) := fun b q hb n => by
  have : b ≠ l := fun z => by rw [z, h] at hb; cases hb
  rw [upd_ne this]
  exact e b q hb n
theorem tabs_upd {Tb : List (Addr × Str)} {H1 : Hp} {l : Addr} {o q : HO} (h : Tabs Tb H1) (hl : H1 l = some o) (h1 : ∀ ps, o ≠ .tbl ps) (h2 : ∀ c s, o ≠ CodeO c s) : Tabs Tb (upd H1 l q) := fun p hp => by
  obtain ⟨ps, q1, q2, q3⟩ := h p hp
  have n1 : p.1 ≠ l := fun z => by rw [z, hl] at q1; exact h1 _ (Option.some.inj q1)
  refine ⟨ps, by rw [upd_ne n1]; exact q1, q2, fun pos cv hc => ?_⟩
  obtain ⟨c, e1, e2⟩ := q3 pos cv hc
  have n2 : c ≠ l := fun z => by rw [z, hl] at e2; exact h2 _ _ (Option.some.inj e2)
  exact ⟨c, e1, by rw [upd_ne n2]; exact e2⟩
theorem tabs_mut {Tb : List (Addr × Str)} {H1 : Hp} {l : Addr} {xs ys : List V} (h : Tabs Tb H1) (hl : H1 l = some (.lst xs)) : Tabs Tb (upd H1 l (.lst ys)) :=
  tabs_upd h hl (fun _ z => by cases z) (fun _ _ z => by unfold CodeO at z; cases z)
abbrev s_cover : Stmt := topS 72
theorem sc_cover : FnScope ["page", "count", "chosen", "left", "longer", "candidate"] ["page", "count"] (defScope s_cover) := ⟨rfl, rfl, rfl, by decide +kernel, rfl, by decide +kernel, by decide +kernel⟩
theorem ok_cover {c Pt : Addr} (T : Txt K mg CC CP CS) (F : FunAtC K mg "cover" s_cover ["page", "count"] c) (TB : TabB base mg c Pt) (hmT : (Pt, lamQ "cover") ∈ Tb) (hu : ∀ p ∈ Tb, p.1 = Pt → p.2 = lamQ "cover")
    (D_coverage_of : DefAt P w K mg base 1 "coverage_of" ["page", "listed"] (spV (rCov K CC CP))) : DefAt P w K mg base 5 "cover" ["page", "count"] (spLT Tb (rNum CC CP .cover)) := by
  obtain ⟨f, fd, FF, hm, hb⟩ := F.ex
  refine ⟨f, fd, FF.ok sc_cover (fun vs H Q E h => ?_) (fun A outer s H vs Q E hr h => ⟨_, (pss_cons (ps_set (i := 2) sc_cover.nd rfl (Or.inr rfl) (pe_lst pa_nil))
      (pss_cons (ps_set (i := 3) sc_cover.nd rfl (Or.inl rfl) (pe_listRg (by rfl) (by rfl) T.list (prg_1 (by rfl) T.range (pe_callB (lenK (K := K)) (by rfl) T.len (by decide +kernel) (pa_cons (fldK (K := K) (pv 0)) pa_nil)))))
      (pss_cons (ps_while PassesOwn.never (PW.pt (pw_and (truK (K := K) (pv 3)) (pw_and1 (pt_cmpR op_lt (pe_callB (lenK (K := K)) (by rfl) T.len (by decide +kernel) (pa_cons (pv 2) pa_nil)) (pv 1) (nomark _)))))
        (pss_cons (ps_setLc (i := 4) (own := [("candidate", 5)]) rfl sc_cover.nd rfl rfl (sw_true rfl rfl rfl (by decide +kernel)) (wList (K := K) (pv 3)) (blkOk_by (own := [("candidate", 5)]) (N := ["page", "count", "chosen", "left", "longer", "candidate"]) (sc := defScope s_cover) (by decide +kernel)) (fun _ _ _ _ _ => pg_name (i := 5) sc_cover.nd rfl (Or.inl rfl)) (fun _ _ _ _ _ => pts_nil) (fun _ _ _ _ _ => (pe_op op_cat (pv 2) (pe_lst (pa_cons (pv 5) pa_nil)))))
      (pss_cons (ps_set (i := 2) sc_cover.nd rfl (Or.inr rfl) (pe_maxKey (K := K) (T := Tb) (N := ["listed", "page"]) (fr := ["page"]) (js := [0]) (k := 1) TB (by rfl) hmT hu (nscope_by (by decide +kernel)) (by rfl) (ndef_free (sc := defScope s_cover) (fr := ["page"]) (by decide +kernel)) (ndef_fr (sc := defScope s_cover) (by decide +kernel)) (by rfl) (fun _ _ _ _ _ _ => rfl) (hr.mono (by decide)) (by rfl) T.max (pa_cons (pv 4) pa_nil) (fun q cl c1 f1 A outer s H hr => (pe_cd D_coverage_of (hr.mono (by decide)) pass0 (pa_cons (pv 1) (pa_cons (pv 0) pa_nil))))))
      (pss_one (ps_expr (bmK (K := K) PySem.F.plainAttrs_list PySem.F.slot_list_remove PySem.F.type_list_remove mt_remove (pv 3) (pa_cons (pe_ix (ixL (K := K)) (pv 2) (pe_un un_neg pe_int) (fun _ _ => rfl)) pa_nil)))))))
      (pss_one (ps_ret (pe_op op_cat (pe_lst (pa_cons (pe_callB (lenK (K := K)) (by rfl) T.len (by decide +kernel) (pa_cons (pv 2) pa_nil)) (pa_cons (pe_cd D_coverage_of (hr.mono (by decide)) pass0 (pa_cons (pv 0) (pa_cons (pv 2) pa_nil))) pa_nil))) (pv 2))))))), ?_⟩), hm, FF.kp, hb⟩
  · obtain ⟨z, ⟨_, _, _, rfl, _⟩, _⟩ := h
    rfl
  · obtain ⟨z, ⟨a, p, n, rfl, hp, wf, rfl⟩, hTb, k⟩ := h
    have hst : (Kp430.step (some p) (.cover n)).2 = Kp430.natResult (Kp430.coverFrom p n []).length ((Kp430.covered p (Kp430.coverFrom p n [])).length :: Kp430.coverFrom p n []) := rfl
    rw [hst] at k
    have hcn := wf.cn
    refine q_asgL (el_lst ea_nil (by show 0 ≤ 100000; decide)) fun l0 H1 hl0 e1 h1 => ?_
    obtain ⟨L, hpL⟩ := hp
    refine q_asgL (el_range (pg_lenC T (hpL.mono e1) (ev_var rfl)) (by omega)) fun lf H2 hlf e2 h2 => ?_
    have hlf0 : H lf = none := fresh_back e1 hlf
    refine q_while (fun m σ' H' => ∃ l s v4 v5, σ' = [some (.ref a), some (nV n), some (.ref l), some (.ref lf), v4, v5] ∧ ExtN H H' ∧ Tabs Tb H' ∧ FreshN H l ∧ l ≠ lf ∧ H' l = some (.lst (s.map nV)) ∧ H' lf = some (.lst ((lefts p s).map nV)) ∧ (∀ n ∈ s, n < p.candidates.length) ∧ s.Nodup ∧ s.length + m = n ∧ Kp430.coverFrom p m s = Kp430.coverFrom p n []) n
      ⟨l0, [], none, none, rfl, exN (e1.trans e2), hTb.ext (e1.trans e2), freshN_none hl0, (fun z => by rw [z] at h1; rw [h1] at hlf; cases hlf), e2 _ _ h1, by rw [lefts_nil]; exact h2, (fun _ h => nomatch h), List.nodup_nil, by rw [List.length_nil, Nat.zero_add], rfl⟩ ?_
    rintro m σ' H' ⟨l, s, v4, v5, rfl, eH, hT', hfl, hnl, hl, hlf', hin, hnd, hm, hgr⟩
    have hpA := PageL.later eH ⟨L, hpL⟩
    have hsl := nodup_le hnd hin
    have fin : ∀ H5, Ex H' H5 → Kp430.coverFrom p n [] = s → ∀ v4 v5, (tRet (tOp rCat (tLst (tCons (tCB (rLenS K) (tCons (tVar 2) tNil)) (tCons (tCall (spV (rCov K CC CP)) [] E0 (tCons (tVar 0) (tCons (tVar 2) tNil))) tNil))) (tVar 2)) { nx := fun x H' => Q V.non H', rt := Q } [some (.ref a), some (nV n), some (.ref l), some (.ref lf), v4, v5] H5) := by
      intro H5 e5 hs v4 v5
      rw [hs] at k
      obtain ⟨L', hp5⟩ := PageL.later (eH.trans (exN e5)) ⟨L, hpL⟩
      have hl5 := e5 _ _ hl
      refine s_retL (EvL.is (el_cc (ek_new (el_lst (ea_cons (ev_lenS (es_of (ev_var rfl) (sq_of hl5))) (ea_cons (ev_cd (ea_cons (ev_var rfl) (ea_cons (ev_var rfl) ea_nil)) fun H6 e6 => ⟨a, l, p, s, ⟨rfl, ⟨L', hp5.mono e6⟩, wf, sq_of (e6 _ _ hl5), hin, by omega⟩, rfl⟩) ea_nil)) (by show 2 ≤ 100000; decide))) (ek_of (ev_var rfl) hl5) (by rw [List.length_map]; show 2 + _ ≤ 100000; omega)) ?_) fun d H6 hd e6 h6 => k d H6 (freshN_back (eH.trans (exN e5)) (freshN_none hd)) (eH.trans (exN (e5.trans e6))) (hT'.ext (e5.trans e6)) h6
      rw [List.length_map]
      show _ = ((s.length : Int) :: ((Kp430.covered p s).length :: s).map fun n : Nat => (n : Int)).map V.int
      simp
    refine ⟨!(lefts p s).isEmpty && decide (s.length < n), et_and (et_is (et_tru (es_of (ev_var rfl) (sq_of hlf'))) (by cases lefts p s <;> rfl)) fun _ => et_test (ev_is (ev_op (ev_is (ev_lenS (es_of (ev_var rfl) (sq_of hl))) (by rw [List.length_map])) (ev_var rfl) rv_I0) nv_lt), fun hb H3 e3 => ?_, fun hb H3 e3 => ?_⟩
    · rw [Bool.and_eq_true, decide_eq_true_eq, Bool.not_eq_true'] at hb
      have hne : lefts p s ≠ [] := fun z => by rw [z] at hb; cases hb.1
      obtain ⟨m, rfl⟩ : ∃ m', m = m' + 1 := ⟨m - 1, by omega⟩
      have hll : (lefts p s).length ≤ 9 := by
        unfold lefts Kp430.all
        exact Nat.le_trans (List.length_filter_le _ _) (by rw [List.length_range]; exact hcn)
      refine ⟨fun σ2 H3 => ∃ l s v4 v5, σ2 = [some (.ref a), some (nV n), some (.ref l), some (.ref lf), v4, v5] ∧ ExtN H H3 ∧ Tabs Tb H3 ∧ FreshN H l ∧ l ≠ lf ∧ H3 l = some (.lst (s.map nV)) ∧ H3 lf = some (.lst ((lefts p s).map nV)) ∧ (∀ n ∈ s, n < p.candidates.length) ∧ s.Nodup ∧ s.length + m = n ∧ Kp430.coverFrom p m s = Kp430.coverFrom p n [], fun σ2 H3 q => ⟨m, Nat.lt_succ_self m, q⟩, ?_⟩
      refine q_asgEach (el_lcN (l := lefts p s) (r := nV) (g := fun c => (s ++ [c]).map nV) (es_of (ev_var rfl) (sq_of (e3 _ _ hlf'))) (by omega) (by intro _; rfl)
        fun c H4 e4 hc => EvL.is (el_cc (ek_of (ev_var (by rfl)) ((e3.trans e4) _ _ hl)) (ek_new (el_lst (ea_cons (ev_var (by rfl)) ea_nil) (by show 1 ≤ 100000; decide))) (by rw [List.length_map]; show s.length + 1 ≤ 100000; omega)) (by rw [List.map_append]; rfl)) fun d ts H4 hd e4 h4 hE hN => ?_
      have E4 := e3.trans e4
      refine q_maxKey (as := ts) (fun i => (((Kp430.covered p (s ++ [(lefts p s).getD i 0])).length : Nat) : Int)) (ea_cons (ev_var rfl) ea_nil) (hT'.ext E4) h4 (by rw [hE.1]; exact List.length_pos_iff.mpr hne) (fun H5 e5 i t ht => ?_) (fun i t H5 ht hk e5 hT5 => ?_)
      · obtain ⟨c, hc, hq⟩ := hE.at_ ht
        have hcl := lefts_mem (List.mem_of_getElem? hc)
        have ec : (lefts p s).getD i 0 = c := by rw [List.getD_eq_getElem?_getD, hc]; rfl
        show Ev _ _ H5 (.int (((Kp430.covered p (s ++ [(lefts p s).getD i 0])).length : Nat) : Int))
        rw [ec]
        have hin2 : ∀ n ∈ s ++ [c], n < p.candidates.length := fun n hn => by
          rcases List.mem_append.mp hn with h | h
          · exact hin n h
          · rw [List.mem_singleton.mp h]; exact hcl.1
        have hnd2 : (s ++ [c]).Nodup := List.nodup_append.mpr ⟨hnd, by simp, fun x hx y hy z => hcl.2 (by rw [List.mem_singleton.mp hy] at z; exact z ▸ hx)⟩
        have hl2 := nodup_le hnd2 hin2
        exact ev_cd (ea_cons (ev_var (by rfl)) (ea_cons (ev_var (by rfl)) ea_nil)) fun H6 e6 => ⟨a, t, p, s ++ [c], ⟨rfl, PageL.later (eH.trans ((exN E4).trans (e5.trans (exN e6)))) ⟨L, hpL⟩, wf, sq_of (e6 _ _ (exN_l e5 hq)), hin2, by omega⟩, rfl⟩
      · obtain ⟨c, hc, hq⟩ := hE.at_ ht
        have hcl := lefts_mem (List.mem_of_getElem? hc)
        have ec : (lefts p s).getD i 0 = c := by rw [List.getD_eq_getElem?_getD, hc]; rfl
        have ham : Kp430.argMax (fun c => (Kp430.covered p (s ++ [c])).length) (lefts p s) = some c := argMax_at _ _ i c hc fun j d hj => by
          have hjl : j < ts.length := by rw [hE.1]; exact (List.getElem?_eq_some_iff.mp hj).1
          obtain ⟨k1, k2⟩ := hk j hjl
          have ej : (lefts p s).getD j 0 = d := by rw [List.getD_eq_getElem?_getD, hj]; rfl
          rw [ec, ej] at k1 k2
          exact ⟨by omega, fun q => by have := k2 q; omega⟩
        rw [cover_step, ham] at hgr
        have hq5 := exN_l e5 hq
        have hlf5 := exN_l e5 (E4 _ _ hlf')
        have htn := hN t (List.mem_of_getElem? ht)
        have ntl : t ≠ lf := fun z => by rw [z, e3 _ _ hlf'] at htn; cases htn
        refine s_remI (c := c) (j := i) hlf5 (ev_var (by rfl)) (ev_ixS (es_of (ev_var (by rfl)) (sq_of hq5)) (ev_un ev_c ru_neg) (by show atI (List.map nV (s ++ [c])) (-1) = _; rw [List.map_append]; exact atI_last _ _)) hc (first_place (lefts_nodup p s) hc) fun H6 e6 => ?_
        refine ⟨t, s ++ [c], _, _, rfl, exN_mut (eH.trans ((exN E4).trans (e5.trans (exN e6)))) hlf0, tabs_mut (hT5.ext e6) (e6 _ _ hlf5), freshN_back (eH.trans (exN e3)) (freshN_none htn), ntl, by rw [upd_ne ntl]; exact e6 _ _ hq5, by rw [upd_same, erase_filter (lefts_nodup p s) hc, lefts_snoc], fun n hn => ?_, ?_, by rw [List.length_append, List.length_singleton]; omega, hgr⟩
        · rcases List.mem_append.mp hn with h | h
          · exact hin n h
          · rw [List.mem_singleton.mp h]; exact hcl.1
        · exact List.nodup_append.mpr ⟨hnd, by simp, fun x hx y hy z => hcl.2 (by rw [List.mem_singleton.mp hy] at z; exact z ▸ hx)⟩
    · refine fin H3 e3 ?_ _ _
      rw [Bool.and_eq_false_iff, Bool.not_eq_false', decide_eq_false_iff_not] at hb
      rw [← hgr]
      rcases hb with hb | hb
      · exact cover_none _ (List.isEmpty_iff.mp hb)
      · have : m = 0 := by omega
        subst this
        rfl
end
end Ps
end

section
set_option maxRecDepth 100000
set_option maxHeartbeats 1000000
namespace Ps
open Kp430
/-! Changes of a slate. -/
/-- two positions have changed their candidates -/
def swapAt (s : Slate) (i j : Nat) : Slate := (s.set i (s.getD j 0)).set j (s.getD i 0)
theorem swap_at {s : Slate} {i j m : Nat} (hi : i < s.length) (hj : j < s.length) (hm : m < (swapAt s i j).length) : ∃ q : (if j = m then i else if i = m then j else m) < s.length, (swapAt s i j)[m] = s[if j = m then i else if i = m then j else m] := by
  have hm2 : m < s.length := by unfold swapAt at hm; rw [List.length_set, List.length_set] at hm; exact hm
  have gi : s.getD i 0 = s[i] := by rw [List.getD_eq_getElem?_getD, List.getElem?_eq_getElem hi]; rfl
  have gj : s.getD j 0 = s[j] := by rw [List.getD_eq_getElem?_getD, List.getElem?_eq_getElem hj]; rfl
  by_cases h1 : j = m
  · subst h1
    refine ⟨by rw [if_pos rfl]; exact hi, ?_⟩
    unfold swapAt
    simp only [List.getElem_set, if_pos, gi]
  · by_cases h2 : i = m
    · subst h2
      refine ⟨by rw [if_neg h1, if_pos rfl]; exact hj, ?_⟩
      unfold swapAt
      simp only [List.getElem_set, if_neg h1, if_pos, gj]
    · refine ⟨by rw [if_neg h1, if_neg h2]; exact hm2, ?_⟩
      simp only [if_neg h1, if_neg h2]
      show ((s.set i (s.getD j 0)).set j (s.getD i 0))[m]'(by rw [List.length_set, List.length_set]; exact hm2) = s[m]
      rw [List.getElem_set, if_neg h1, List.getElem_set, if_neg h2]
theorem swap_slate {p : Page} {s : Slate} {i j : Nat} (h : isSlate p s = true) (hij : i < j) (hj : j < s.length) : isSlate p (swapAt s i j) = true := by
  obtain ⟨h1, h2, h3⟩ := isSlate_iff.mp h
  have hi : i < s.length := by omega
  refine isSlate_iff.mpr ⟨by unfold swapAt; rw [List.length_set, List.length_set]; exact h1, fun c hc => ?_, ?_⟩
  · obtain ⟨m, hm, e⟩ := List.getElem_of_mem hc
    obtain ⟨q, e2⟩ := swap_at hi hj hm
    rw [← e, e2]
    exact h2 _ (List.getElem_mem q)
  · refine List.pairwise_iff_getElem.mpr fun m n hm hn hmn e => ?_
    obtain ⟨q, e2⟩ := swap_at hi hj hm
    obtain ⟨r, e3⟩ := swap_at hi hj hn
    rw [e2, e3] at e
    have e4 := (List.getElem_inj h3).mp e
    split at e4 <;> split at e4 <;> (try split at e4) <;> (try split at e4) <;> omega
theorem set_slate {p : Page} {s : Slate} {k c : Nat} (h : isSlate p s = true) (hc : c < p.candidates.length) (hn : c ∉ s) : isSlate p (s.set k c) = true := by
  obtain ⟨h1, h2, h3⟩ := isSlate_iff.mp h
  refine isSlate_iff.mpr ⟨by rw [List.length_set]; exact h1, fun d hd => ?_, ?_⟩
  · rcases List.mem_or_eq_of_mem_set hd with q | q
    · exact h2 d q
    · rw [q]; exact hc
  · refine List.pairwise_iff_getElem.mpr fun m n hm hn2 hmn e => ?_
    rw [List.getElem_set, List.getElem_set] at e
    rw [List.length_set] at hm hn2
    by_cases a : k = m
    · rw [if_pos a, if_neg (by omega)] at e
      exact hn (e ▸ List.getElem_mem hn2)
    · rw [if_neg a] at e
      by_cases b : k = n
      · rw [if_pos b] at e
        exact hn (e ▸ List.getElem_mem hm)
      · rw [if_neg b] at e
        have := (List.getElem_inj h3).mp e
        omega
/-- exchanges with an early position -/
def exchRow (s : Slate) (i m : Nat) : List Slate := (List.range m).map fun t => swapAt s i (i + 1 + t)
def exchUpto (s : Slate) (i : Nat) : List Slate := (List.range i).flatMap fun i => exchRow s i (s.length - (i + 1))
theorem above {n i : Nat} (h : i < n) : (List.range n).filter (fun j => decide (i < j)) = (List.range (n - (i + 1))).map fun t => i + 1 + t := by
  have e : n = (i + 1) + (n - (i + 1)) := by omega
  conv => lhs; rw [e]
  rw [List.range_add, List.filter_append]
  have h1 : (List.range (i + 1)).filter (fun j => decide (i < j)) = [] := by
    rw [List.filter_eq_nil_iff]
    intro j hj
    have := List.mem_range.mp hj
    simp; omega
  have h2 : ((List.range (n - (i + 1))).map fun t => i + 1 + t).filter (fun j => decide (i < j)) = (List.range (n - (i + 1))).map fun t => i + 1 + t := by
    rw [List.filter_eq_self]
    intro j hj
    obtain ⟨t, _, rfl⟩ := List.mem_map.mp hj
    simp; omega
  rw [h1, h2, List.nil_append]
theorem exch_is (s : Slate) : (pairsOf s.length).map (fun x => (s.set x.1 (s.getD x.2 0)).set x.2 (s.getD x.1 0)) = exchUpto s s.length := by
  unfold pairsOf exchUpto
  rw [List.map_flatMap]
  have key : ∀ l : List Nat, (∀ i ∈ l, i < s.length) → (l.flatMap fun a => (((List.range s.length).filter fun j => decide (a < j)).map fun j => (a, j)).map fun x : Nat × Nat => (s.set x.1 (s.getD x.2 0)).set x.2 (s.getD x.1 0)) = l.flatMap fun i => exchRow s i (s.length - (i + 1)) := by
    intro l
    induction l with
    | nil => intro _; rfl
    | cons a l ih =>
      intro h
      rw [List.flatMap_cons, List.flatMap_cons, ih fun i hi => h i (List.mem_cons_of_mem _ hi)]
      congr 1
      rw [above (h a (List.mem_cons_self ..)), List.map_map, List.map_map]
      rfl
  exact key _ fun i hi => List.mem_range.mp hi
theorem exch_len (s : Slate) : ∀ i, (exchUpto s i).length ≤ i * s.length
  | 0 => by simp [exchUpto]
  | i + 1 => by
    have h := exch_len s i
    unfold exchUpto at *
    rw [List.range_succ, List.flatMap_append, List.length_append, Nat.succ_mul]
    have : ([i].flatMap fun i => exchRow s i (s.length - (i + 1))).length ≤ s.length := by
      rw [List.flatMap_cons, List.flatMap_nil, List.append_nil]
      unfold exchRow
      rw [List.length_map, List.length_range]
      omega
    omega
/-- candidates from outside at the early positions -/
def replUpto (p : Page) (s : Slate) (i : Nat) : List Slate := (List.range i).flatMap fun k => ((all p).filter fun c => !s.contains c).map fun c => s.set k c
theorem repl_len (p : Page) (s : Slate) : ∀ i, (replUpto p s i).length ≤ i * p.candidates.length
  | 0 => by simp [replUpto]
  | i + 1 => by
    have h := repl_len p s i
    unfold replUpto at *
    rw [List.range_succ, List.flatMap_append, List.length_append, Nat.succ_mul]
    have : ([i].flatMap fun k => ((all p).filter fun c => !s.contains c).map fun c => s.set k c).length ≤ p.candidates.length := by
      rw [List.flatMap_cons, List.flatMap_nil, List.append_nil, List.length_map]
      exact Nat.le_trans (List.length_filter_le _ _) (by unfold Kp430.all; rw [List.length_range]; exact Nat.le_refl _)
    omega
theorem moves_is (p : Page) (s : Slate) : moves p s = exchUpto s s.length ++ replUpto p s s.length := by
  unfold moves
  rw [exch_is]
  rfl
theorem moves_slate {p : Page} {s t : Slate} (h : isSlate p s = true) (ht : t ∈ moves p s) : isSlate p t = true := by
  rw [moves_is] at ht
  rcases List.mem_append.mp ht with ht | ht
  · obtain ⟨i, hi, ht⟩ := List.mem_flatMap.mp ht
    obtain ⟨m, hm, rfl⟩ := List.mem_map.mp ht
    have := List.mem_range.mp hm
    have := List.mem_range.mp hi
    exact swap_slate h (by omega) (by omega)
  · obtain ⟨k, hk, ht⟩ := List.mem_flatMap.mp ht
    obtain ⟨c, hc, rfl⟩ := List.mem_map.mp ht
    obtain ⟨h1, h2⟩ := List.mem_filter.mp hc
    exact set_slate h (List.mem_range.mp h1) (by simpa using h2)
/-- what makes a slate better -/
def betterT (p : Page) (s t : Slate) : Bool := isFeasible p t && decide (value p s < value p t)
theorem improve_step (p : Page) (m : Nat) (s : Slate) (n : Nat) : improve p (m + 1) s n = match (moves p s).find? (betterT p s) with
  | none => (s, n)
  | some t => improve p m t (n + 1) := rfl
theorem improve_none {p : Page} {s : Slate} (m n : Nat) (h : (moves p s).find? (betterT p s) = none) : improve p m s n = (s, n) := by
  cases m with
  | zero => rfl
  | succ m => rw [improve_step, h]
theorem find_here {α : Type} {l : List α} {f : α → Bool} {i : Nat} {x : α} (h : l[i]? = some x) (hf : f x = true) (hn : ∀ y ∈ l.take i, f y = false) : l.find? f = some x := by
  rw [List.find?_eq_some_iff_append]
  refine ⟨hf, l.take i, l.drop (i + 1), ?_, fun a ha => by rw [hn a ha]; rfl⟩
  obtain ⟨h1, h2⟩ := List.getElem?_eq_some_iff.mp h
  conv => lhs; rw [← List.take_append_drop i l, List.drop_eq_getElem_cons h1, h2]
end Ps
end

section
set_option maxRecDepth 100000
set_option maxHeartbeats 2000000
namespace Ps
open PySem PySem.Spec PyProof.Rows L2 Evl
open Kp430 (Page Candidate Quota)
/-! Improving a slate. -/
section
variable {P : Program} {w : World} {K : PySem.W.Frag} {mg : Str → Option Value} {base : Heap} {CC CP CS : Addr} {σ : L2.St} {H : Hp} {D : Ends} {a : Addr} {L : Lay} {p : Page} {tp tc tl te ta tb tx ty to : TE} {tz tu : TS} {g : TG}
abbrev lV : List Nat → List V := fun s => s.map nV
theorem Each.app {α : Type} {R : Hp → Addr → α → Prop} {H : Hp} {ts us : List Addr} {xs ys : List α} (h1 : Each R H ts xs) (h2 : Each R H us ys) : Each R H (ts ++ us) (xs ++ ys) := by
  refine ⟨by rw [List.length_append, List.length_append, h1.1, h2.1], fun i t x q1 q2 => ?_⟩
  by_cases hi : i < ts.length
  · rw [List.getElem?_append_left hi] at q1
    rw [List.getElem?_append_left (by rw [← h1.1]; exact hi)] at q2
    exact h1.2 i t x q1 q2
  · rw [List.getElem?_append_right (by omega)] at q1
    rw [List.getElem?_append_right (by rw [← h1.1]; omega)] at q2
    rw [← h1.1] at q2
    exact h2.2 _ t x q1 q2
theorem EvEach.map {α β : Type} {g : α → List V} {f : β → α} {l : List β} (h : EvEach (fun x => g (f x)) te σ H l) : EvEach g te σ H (l.map f) := fun H1 e Q q => h H1 e Q fun d ts H2 hd e2 h2 hE hN => q d ts H2 hd e2 h2 ⟨by rw [List.length_map]; exact hE.1, fun i t x q1 q2 => by
  obtain ⟨b, hb, rfl⟩ := getE_map q2
  exact hE.2 i t b q1 hb⟩ hN
theorem EvEach.is {α : Type} {g : α → List V} {l m : List α} (h : EvEach g te σ H l) (e : l = m) : EvEach g te σ H m := e ▸ h
/-- a promise of a new list of new lists -/
def RetEach (l : List (List Nat)) (H : Hp) (Q : VK) : Prop := ∀ d ts H', H d = none → Ex H H' → H' d = some (.lst (ts.map V.ref)) → Each (LstT lV) H' ts l → (∀ t ∈ ts, H t = none) → Q (.ref d) H'
def spE (R : List V → Hp → List (List Nat) → Prop) : Sp := fun vs H Q _ => ∃ l, R vs H l ∧ RetEach l H Q
theorem ee_cd {R : List V → Hp → List (List Nat) → Prop} {E : XK} {tq : TA} {vs : List V} {l : List (List Nat)} (h : EvA tq σ H vs) (r : ∀ H1, Ex H H1 → R vs H1 l) : EvEach lV (tCall (spE R) [] E tq) σ H l := fun H1 e Q q => h H1 e _ fun H2 e2 => by
  rw [List.append_nil]
  exact ⟨l, r H2 (e.trans e2), fun d ts H3 hd e3 h3 hE hN => q d ts H3 (fresh_back e2 hd) (e2.trans e3) h3 hE fun t ht => fresh_back e2 (hN t ht)⟩
theorem ee_cat {α : Type} {g : α → List V} {l m : List α} (h1 : EvEach g ta σ H l) (h2 : EvEach g tb σ H m) (hz : l.length + m.length ≤ 100000) : EvEach g (tOp rCat ta tb) σ H (l ++ m) := fun H1 e Q q =>
  h1 H1 e _ fun d ts H2 hd e2 q2 hE hN => h2 H2 (e.trans e2) _ fun d' us H3 hd' e3 q3 hE' hN' => ⟨d, d', _, _, rfl, rfl, e3 _ _ q2, q3, sz_of (by rw [List.length_map, List.length_map, hE.1, hE'.1]; exact hz), fun x hx => by
    have eX : Ex H3 (upd H3 x (.lst (ts.map V.ref ++ us.map V.ref))) := Ex.new hx
    refine q x (ts ++ us) _ (fresh_back (e2.trans e3) hx) ((e2.trans e3).trans eX) (by rw [upd_same, List.map_append]) (Each.app (hE.imp fun t s _ _ q => q.mono (e3.trans eX)) (hE'.imp fun t s _ _ q => q.mono eX)) fun t ht => ?_
    rcases List.mem_append.mp ht with ht | ht
    · exact hN t ht
    · exact fresh_back e2 (hN' t ht)⟩
/-- l.extend(a list of new lists) -/
theorem s_extEach {l : Addr} {xs : List V} {α : Type} {g : α → List V} {m : List α} (hl : H l = some (.lst xs)) (ha : Ev ta σ H (.ref l)) (h : EvEach g te σ H m) (hz : xs.length + m.length ≤ 100000) (k : ∀ us H1, Ex H H1 → Each (LstT g) H1 us m → (∀ t ∈ us, H t = none) → D.nx σ (upd H1 l (.lst (xs ++ us.map V.ref)))) : tDrop (tBM K "list" rExtend ta (tCons te tNil)) D σ H :=
  ha H (Ex.refl H) _ fun H1 e1 => ⟨Or.inl ⟨rfl, xs, sq_of (e1 l _ hl)⟩, h H1 e1 _ fun b us H2 _ e2 h2 hE hN => ⟨l, b, xs, us.map V.ref, rfl, rfl, e2 l _ (e1 l _ hl), h2, sz_of (by rw [List.length_map, hE.1]; exact hz), k us H2 (e1.trans e2) hE fun t ht => fresh_back e1 (hN t ht)⟩⟩
/-- f(a new list, y, z) -/
theorem el_cdL3 {R : List V → Hp → List V → Prop} {E : XK} {xs ys : List V} {y z : V} (h : EvL ta σ H xs) (hb : Ev tb σ H y) (hc : Ev tc σ H z) (r : ∀ q H1, Ex H H1 → H1 q = some (.lst xs) → R [.ref q, y, z] H1 ys) : EvL (tCall (spL R) [] E (tCons ta (tCons tb (tCons tc tNil)))) σ H ys := fun H1 e Q q =>
  h H1 e _ fun d H2 hd e2 h2 => hb H2 (e.trans e2) _ fun H3 e3 => hc H3 ((e.trans e2).trans e3) _ fun H4 e4 => ⟨ys, r d H4 (((e.trans e2).trans e3).trans e4) ((e3.trans e4) _ _ h2), fun p H5 hp e5 h5 => q p H5 (fresh_back ((e2.trans e3).trans e4) hp) (((e2.trans e3).trans e4).trans e5) h5⟩
def rReplaced (K : PySem.W.Frag) : List V → Hp → List V → Prop := fun vs H xs => ∃ l, ∃ s : List Nat, ∃ k c, vs = [.ref l, nV k, nV c] ∧ SqL K H l (s.map nV) ∧ k < s.length ∧ s.length ≤ 100 ∧ xs = (s.set k c).map nV
abbrev s_replaced : Stmt := topS 67
theorem sc_replaced : FnScope ["slate", "position", "candidate"] ["slate", "position", "candidate"] (defScope s_replaced) := ⟨rfl, rfl, rfl, by decide +kernel, rfl, by decide +kernel, by decide +kernel⟩
theorem ok_replaced (T : Txt K mg CC CP CS) (F : FunAt K mg "replaced" s_replaced ["slate", "position", "candidate"]) : DefAt P w K mg base 1 "replaced" ["slate", "position", "candidate"] (spL (rReplaced K)) := by
  obtain ⟨f, fd, FF, hm, hb⟩ := F.ex
  refine ⟨f, fd, FF.ok sc_replaced (fun vs H Q E h => ?_) (fun cdv A outer s H vs Q E hr h => ⟨_, (pss_one (ps_ret (pe_op op_cat (pe_op op_cat (pe_slice (slL (K := K)) (pv 0) po_none (po_some (pv 1))) (pe_lst (pa_cons (pv 2) pa_nil))) (pe_slice (slL (K := K)) (pv 0) (po_some (pe_op op_add (pv 1) pe_int)) po_none)))), ?_⟩), hm, FF.kp, hb⟩
  · obtain ⟨z, ⟨_, _, _, _, rfl, _⟩, _⟩ := h
    rfl
  · obtain ⟨z, ⟨l, s, kk, c, rfl, hS, hk, h100, rfl⟩, k⟩ := h
    have e1 : V.int ((kk : Int) + 1) = nV (kk + 1) := rfl
    refine s_retL (EvL.is (el_cc (ek_new (el_cc (ek_new (es_sl (es_of (ev_var rfl) hS) eo_none (eo_some (ev_var rfl)))) (ek_new (el_lst (ea_cons (ev_var rfl) ea_nil) (by show 1 ≤ 100000; decide))) (by rw [cut_to, List.length_take, List.length_map]; show _ + 1 ≤ 100000; omega))) (ek_new (es_sl (es_of (ev_var rfl) hS) (eo_some (ev_op (ev_var rfl) ev_c rv_I0)) eo_none)) ?_) ?_) fun d H2 hd e2 h2 => k d H2 hd e2 h2
    · rw [cut_to, show ((kk : Int) + 1) = ((kk + 1 : Nat) : Int) from rfl, cut_from, List.length_append, List.length_take, List.length_drop, List.length_map]
      show _ + 1 + _ ≤ 100000
      omega
    · rw [cut_to, show ((kk : Int) + 1) = ((kk + 1 : Nat) : Int) from rfl, cut_from, List.set_eq_take_append_cons_drop, if_pos hk, List.map_append, List.map_cons, List.map_take, List.map_drop, List.append_assoc]
      rfl
def rExch (K : PySem.W.Frag) : List V → Hp → List (List Nat) → Prop := fun vs H m => ∃ l, ∃ s : List Nat, vs = [.ref l] ∧ SqL K H l (s.map nV) ∧ s.length ≤ 12 ∧ m = exchUpto s s.length
theorem getD_nat {s : List Nat} {i : Nat} (h : i < s.length) : (s.map nV)[i]? = some (nV (s.getD i 0)) := by
  rw [List.getElem?_map, List.getElem?_eq_getElem h, List.getD_eq_getElem?_getD, List.getElem?_eq_getElem h]
  rfl
abbrev s_exchanges : Stmt := topS 68
theorem sc_exchanges : FnScope ["slate", "changed", "early", "late"] ["slate"] (defScope s_exchanges) := ⟨rfl, rfl, rfl, by decide +kernel, rfl, by decide +kernel, by decide +kernel⟩
theorem ok_exchanges (T : Txt K mg CC CP CS) (F : FunAt K mg "exchanges" s_exchanges ["slate"]) (D_replaced : DefAt P w K mg base 1 "replaced" ["slate", "position", "candidate"] (spL (rReplaced K))) : DefAt P w K mg base 2 "exchanges" ["slate"] (spE (rExch K)) := by
  obtain ⟨f, fd, FF, hm, hb⟩ := F.ex
  refine ⟨f, fd, FF.ok sc_exchanges (fun vs H Q E h => ?_) (fun cdv A outer s H vs Q E hr h => ⟨_, (pss_cons (ps_set (i := 1) sc_exchanges.nd rfl (Or.inl rfl) (pe_lst pa_nil))
      (pss_cons (ps_for PassesOwn.never rfl (pi_range1 (by rfl) T.range (pa_cons (pe_callB (lenK (K := K)) (by rfl) T.len (by decide +kernel) (pa_cons (pv 0) pa_nil)) pa_nil)) (pg_name (i := 2) sc_exchanges.nd rfl (Or.inl rfl))
        (pss_one (ps_for PassesOwn.never rfl (pi_range2 (by rfl) T.range (pa_cons (pe_op op_add (pv 2) pe_int) (pa_cons (pe_callB (lenK (K := K)) (by rfl) T.len (by decide +kernel) (pa_cons (pv 0) pa_nil)) pa_nil))) (pg_name (i := 3) sc_exchanges.nd rfl (Or.inl rfl))
        (pss_one (ps_expr (bmK (K := K) PySem.F.plainAttrs_list PySem.F.slot_list_append PySem.F.type_list_append mt_append (pv 1) (pa_cons (pe_cd D_replaced (hr.mono (by decide)) pass0 (pa_cons (pe_cd D_replaced (hr.mono (by decide)) pass0 (pa_cons (pv 0) (pa_cons (pv 2) (pa_cons (pe_ix (ixL (K := K)) (pv 0) (pv 3) (fun _ _ => rfl)) pa_nil)))) (pa_cons (pv 3) (pa_cons (pe_ix (ixL (K := K)) (pv 0) (pv 2) (fun _ _ => rfl)) pa_nil)))) pa_nil)))))))
      (pss_one (ps_ret (pv 1))))), ?_⟩), hm, FF.kp, hb⟩
  · obtain ⟨z, ⟨_, _, rfl, _⟩, _⟩ := h
    rfl
  · obtain ⟨z, ⟨l, s, rfl, hS, h12, rfl⟩, k⟩ := h
    refine q_asgL (el_lst ea_nil (by show 0 ≤ 100000; decide)) fun o H1 ho e1 h1 => ?_
    have lenE : ∀ {σ : L2.St} {H' : Hp}, Ex H H' → σ[0]? = some (some (.ref l)) → Ev (tCB (rLenS K) (tCons (tVar 0) tNil)) σ H' (.int (s.length : Int)) := fun e h0 => ev_is (ev_lenS (es_of (ev_var h0) (ex_l e hS))) (by rw [List.length_map])
    refine q_forR1 (n := (s.length : Int)) (ea_cons (lenE e1 rfl) ea_nil) ⟨by omega, by omega⟩ (fun i σ' H' => ∃ v2 v3 ts, σ' = [some (.ref l), some (.ref o), v2, v3] ∧ Ex H H' ∧ H' o = some (.lst (ts.map V.ref)) ∧ Each (fun H' t x => t ≠ o ∧ H t = none ∧ H' t = some (.lst (lV x))) H' ts (exchUpto s i))
      (fun H2 e2 => ⟨none, none, [], rfl, e1.trans e2, e2 _ _ h1, Each.nil⟩) ?_ ?_
    · rintro i σ' H' hi ⟨v2, v3, ts, rfl, eH, hO, hE⟩
      have hi2 : i < s.length := by omega
      have hup := exch_len s i
      have hE1 := hE.1
      have hmul : i * s.length ≤ 12 * 12 := Nat.mul_le_mul (by omega) h12
      refine s_forR2 (lo := ((i + 1 : Nat) : Int)) (n := (s.length : Int)) (ea_cons (ev_is (ev_op (ev_var rfl) ev_c rv_I0) rfl) (ea_cons (lenE eH rfl) ea_nil)) ⟨by omega, by omega, by omega, by omega⟩ (fun j σ2 H2 => ∃ v3 ts, σ2 = [some (.ref l), some (.ref o), some (nV i), v3] ∧ Ex H H2 ∧ H2 o = some (.lst (ts.map V.ref)) ∧ Each (fun H' t x => t ≠ o ∧ H t = none ∧ H' t = some (.lst (lV x))) H2 ts (exchUpto s i ++ exchRow s i j))
        (fun H2 e2 => ⟨v3, ts, rfl, eH.trans e2, e2 _ _ hO, by
          show Each _ H2 ts (exchUpto s i ++ [])
          rw [List.append_nil]
          exact hE.imp fun t x _ _ ⟨q1, q2, q3⟩ => ⟨q1, q2, e2 _ _ q3⟩⟩) ?_ ?_
      · rintro j σ2 H2 hj ⟨v3, ts2, rfl, eH2, hO2, hE2⟩
        have hjl : i + 1 + j < s.length := by omega
        have hlen2 : ts2.length ≤ 12 * 12 + 12 := by
          have := hE2.1
          rw [List.length_append] at this
          have h3 : (exchRow s i j).length = j := by unfold exchRow; rw [List.length_map, List.length_range]
          omega
        have ej : V.int (((i + 1 : Nat) : Int) + (j : Int)) = nV (i + 1 + j) := rfl
        rw [ej]
        have hS2 := ex_l eH2 hS
        refine s_appL (ys := lV (swapAt s i (i + 1 + j))) hO2 (ev_var rfl) (el_cdL3 (xs := lV (s.set i (s.getD (i + 1 + j) 0))) (el_cd (ea_cons (ev_var rfl) (ea_cons (ev_var rfl) (ea_cons (ev_ixS (es_of (ev_var rfl) hS2) (ev_var rfl) (atI_nat (getD_nat hjl))) ea_nil))) fun H3 e3 => ⟨l, s, i, _, rfl, ex_l e3 hS2, hi2, by omega, rfl⟩)
          (ev_var rfl) (ev_ixS (es_of (ev_var rfl) hS2) (ev_var rfl) (atI_nat (getD_nat hi2))) fun q H3 e3 h3 => ⟨q, s.set i (s.getD (i + 1 + j) 0), i + 1 + j, s.getD i 0, rfl, sq_of h3, by rw [List.length_set]; exact hjl, by rw [List.length_set]; omega, rfl⟩) (by rw [List.length_map]; omega) fun q H3 hq e3 h3 => ⟨_, ts2 ++ [q], rfl, Ex.mut (eH2.trans e3) ho, by rw [upd_same, List.map_append]; rfl, ?_⟩
        have nq : q ≠ o := fun z => by rw [z, hO2] at hq; cases hq
        have er : exchRow s i (j + 1) = exchRow s i j ++ [swapAt s i (i + 1 + j)] := by
          unfold exchRow
          rw [List.range_succ, List.map_append]
          rfl
        rw [er, ← List.append_assoc]
        exact Each.snoc (hE2.imp fun t x _ _ ⟨q1, q2, q3⟩ => ⟨q1, q2, by rw [upd_ne q1]; exact e3 _ _ q3⟩) ⟨nq, fresh_back eH2 hq, by rw [upd_ne nq]; exact h3⟩
      · rintro σ2 H2 ⟨v3, ts2, rfl, eH2, hO2, hE2⟩
        refine ⟨_, _, ts2, rfl, eH2, hO2, ?_⟩
        have et : ((s.length : Int) - ((i + 1 : Nat) : Int)).toNat = s.length - (i + 1) := by omega
        rw [et] at hE2
        have eu : exchUpto s (i + 1) = exchUpto s i ++ exchRow s i (s.length - (i + 1)) := by
          unfold exchUpto
          rw [List.range_succ, List.flatMap_append, List.flatMap_cons, List.flatMap_nil, List.append_nil]
        rw [eu]
        exact hE2
    · rintro σ' H' ⟨v2, v3, ts, rfl, eH, hO, hE⟩
      have et : ((s.length : Int)).toNat = s.length := by omega
      rw [et] at hE
      refine s_ret (ev_var rfl) fun H2 e2 => k o ts H2 ho (eH.trans e2) (e2 _ _ hO) (hE.imp fun t x _ _ ⟨_, _, q⟩ => e2 _ _ q) fun t ht => ?_
      obtain ⟨i, hi, e⟩ := List.getElem_of_mem ht
      obtain ⟨x, _, q⟩ := hE.at_ (List.getElem?_eq_getElem hi)
      rw [e] at q
      exact q.2.1
def rRepl (K : PySem.W.Frag) (CC CP : Addr) : List V → Hp → List (List Nat) → Prop := fun vs H m => ∃ a l p s, vs = [.ref a, .ref l] ∧ PageAt CC CP H a p ∧ Wf p ∧ SqL K H l (s.map nV) ∧ s.length ≤ 12 ∧ m = replUpto p s s.length
abbrev s_replacements : Stmt := topS 69
theorem sc_replacements : FnScope ["page", "slate", "outside", "changed", "position", "candidate"] ["page", "slate"] (defScope s_replacements) := ⟨rfl, rfl, rfl, by decide +kernel, rfl, by decide +kernel, by decide +kernel⟩
theorem ok_replacements (T : Txt K mg CC CP CS) (F : FunAt K mg "replacements" s_replacements ["page", "slate"]) (D_replaced : DefAt P w K mg base 1 "replaced" ["slate", "position", "candidate"] (spL (rReplaced K))) : DefAt P w K mg base 2 "replacements" ["page", "slate"] (spE (rRepl K CC CP)) := by
  obtain ⟨f, fd, FF, hm, hb⟩ := F.ex
  refine ⟨f, fd, FF.ok sc_replacements (fun vs H Q E h => ?_) (fun cdv A outer s H vs Q E hr h => ⟨_, (pss_cons (ps_setLc (i := 2) (own := [("candidate", 5)]) rfl sc_replacements.nd rfl rfl (sw_true rfl rfl rfl (by decide +kernel)) (pi_range1 (by rfl) T.range (pa_cons (pe_callB (lenK (K := K)) (by rfl) T.len (by decide +kernel) (pa_cons (fldK (K := K) (pv 0)) pa_nil)) pa_nil)) (blkOk_by (own := [("candidate", 5)]) (N := ["page", "slate", "outside", "changed", "position", "candidate"]) (sc := defScope s_replacements) (by decide +kernel)) (fun _ _ _ _ _ => pg_name (i := 5) sc_replacements.nd rfl (Or.inl rfl)) (fun _ _ _ _ _ => pts_one (pt_cmpR (notInK (K := K)) (pv 5) (pv 1) (by rfl))) (fun _ _ _ _ _ => (pv 5)))
      (pss_cons (ps_set (i := 3) sc_replacements.nd rfl (Or.inl rfl) (pe_lst pa_nil))
      (pss_cons (ps_for PassesOwn.never rfl (pi_range1 (by rfl) T.range (pa_cons (pe_callB (lenK (K := K)) (by rfl) T.len (by decide +kernel) (pa_cons (pv 1) pa_nil)) pa_nil)) (pg_name (i := 4) sc_replacements.nd rfl (Or.inr rfl))
        (pss_one (ps_expr (bmK (K := K) PySem.F.plainAttrs_list PySem.F.slot_list_extend PySem.F.type_list_extend mt_extend (pv 3) (pa_cons (pe_lc (own := [("candidate", 5)]) rfl sc_replacements.nd (wList (K := K) (pv 2)) (blkOk_by (own := [("candidate", 5)]) (N := ["page", "slate", "outside", "changed", "position", "candidate"]) (sc := defScope s_replacements) (by decide +kernel)) (fun _ _ _ _ _ => pg_name (i := 5) sc_replacements.nd rfl (Or.inl rfl)) (fun _ _ _ _ _ => pts_nil) (fun _ _ _ _ _ => (pe_cd D_replaced (hr.mono (by decide)) pass0 (pa_cons (pv 1) (pa_cons (pv 4) (pa_cons (pv 5) pa_nil)))))) pa_nil)))))
      (pss_one (ps_ret (pv 3)))))), ?_⟩), hm, FF.kp, hb⟩
  · obtain ⟨z, ⟨_, _, _, _, rfl, _⟩, _⟩ := h
    rfl
  · obtain ⟨z, ⟨a, l, p, s, rfl, ⟨L, hp⟩, wf, hS, h12, rfl⟩, k⟩ := h
    have hcn := wf.cn
    refine q_asgL (EvL.is (el_lcRf (n := p.candidates.length) (d := fun c => !s.contains c) (gg := nV) (pg_lenC T hp (ev_var rfl)) (by omega) (by intro _; rfl) (fun i H1 e1 hi => et_is (et_test (ev_op (ev_var (by rfl)) (ev_var (by rfl)) (rv_niL (ex_l e1 hS) rfl (flat_nats _)))) (by rw [inV_nats])) fun i H1 e1 hi _ => ev_var (by rfl)) (show _ = (lefts p s).map nV from rfl)) fun ou H1 hou e1 h1 => ?_
    have hll : (lefts p s).length ≤ 9 := by
      unfold lefts Kp430.all
      exact Nat.le_trans (List.length_filter_le _ _) (by rw [List.length_range]; exact hcn)
    refine q_asgL (el_lst ea_nil (by show 0 ≤ 100000; decide)) fun o H2 ho e2 h2 => ?_
    have ho0 : H o = none := fresh_back e1 ho
    have E2 := e1.trans e2
    refine q_forR1 (n := (s.length : Int)) (ea_cons (ev_is (ev_lenS (es_of (ev_var rfl) (ex_l E2 hS))) (by rw [List.length_map])) ea_nil) ⟨by omega, by omega⟩ (fun i σ' H' => ∃ v4 v5 ts, σ' = [some (.ref a), some (.ref l), some (.ref ou), some (.ref o), v4, v5] ∧ Ex H1 H' ∧ H' o = some (.lst (ts.map V.ref)) ∧ Each (fun H' t x => t ≠ o ∧ H t = none ∧ H' t = some (.lst (lV x))) H' ts (replUpto p s i))
      (fun H3 e3 => ⟨none, none, [], rfl, e2.trans e3, e3 _ _ h2, Each.nil⟩) ?_ ?_
    · rintro i σ' H' hi ⟨v4, v5, ts, rfl, eH, hO, hE⟩
      have hi2 : i < s.length := by omega
      have EH := e1.trans eH
      have hup := repl_len p s i
      have hmul : i * p.candidates.length ≤ 12 * 9 := Nat.mul_le_mul (by omega) hcn
      have hE1 := hE.1
      refine s_extEach (g := lV) (m := (lefts p s).map fun c => s.set i c) hO (ev_var rfl) (EvEach.map (el_lcN (l := lefts p s) (r := nV) (es_of (ev_var rfl) (sq_of (eH _ _ h1))) (by omega) (by intro _; rfl) fun c H3 e3 hc => el_cd (ea_cons (ev_var (by rfl)) (ea_cons (ev_var (by rfl)) (ea_cons (ev_var (by rfl)) ea_nil))) fun H4 e4 => ⟨l, s, i, c, rfl, ex_l (EH.trans (e3.trans e4)) hS, hi2, by omega, rfl⟩)) (by rw [List.length_map, List.length_map]; omega) fun us H3 e3 hU hN => ⟨_, _, ts ++ us, rfl, Ex.mut (eH.trans e3) ho, by rw [upd_same, List.map_append], ?_⟩
      have eu : replUpto p s (i + 1) = replUpto p s i ++ (lefts p s).map fun c => s.set i c := by
        unfold replUpto
        rw [List.range_succ, List.flatMap_append, List.flatMap_cons, List.flatMap_nil, List.append_nil]
        rfl
      rw [eu]
      refine Each.app (hE.imp fun t x _ _ ⟨q1, q2, q3⟩ => ⟨q1, q2, by rw [upd_ne q1]; exact e3 _ _ q3⟩) (hU.imp fun t x ht _ q => ?_)
      have hn := hN t ht
      have nt : t ≠ o := fun z => by rw [z, hO] at hn; cases hn
      exact ⟨nt, fresh_back EH hn, by rw [upd_ne nt]; exact q⟩
    · rintro σ' H' ⟨v4, v5, ts, rfl, eH, hO, hE⟩
      have et : ((s.length : Int)).toNat = s.length := by omega
      rw [et] at hE
      refine s_ret (ev_var rfl) fun H3 e3 => k o ts H3 ho0 (e1.trans (eH.trans e3)) (e3 _ _ hO) (hE.imp fun t x _ _ ⟨_, _, q⟩ => e3 _ _ q) fun t ht => ?_
      obtain ⟨i, hi, e⟩ := List.getElem_of_mem ht
      obtain ⟨x, _, q⟩ := hE.at_ (List.getElem?_eq_getElem hi)
      rw [e] at q
      exact q.2.1
end
end Ps
end

section
set_option maxRecDepth 100000
set_option maxHeartbeats 2000000
namespace Ps
open PySem PySem.Spec PyProof.Rows L2 Evl
open Kp430 (Page Candidate Quota)
section
variable {P : Program} {w : World} {K : PySem.W.Frag} {mg : Str → Option Value} {base : Heap} {CC CP CS : Addr} {σ : L2.St} {H : Hp} {D : Ends} {a : Addr} {L : Lay} {p : Page} {tp tc tl te ta tb tx ty to : TE} {tz tu : TS} {g : TG}
/-- over a new list of new lists -/
theorem q_forEach {α : Type} {gg : α → List V} {m : List α} (h : EvEach gg tl σ H m) (k : ∀ (d : Addr) (ts : List Addr) H1, Ex H H1 → Each (LstT gg) H1 ts m → ∃ Pv : Nat → L2.St → Hp → Prop, Pv 0 σ H1 ∧ (∀ i σ' H', Pv i σ' H' → Ex H1 H') ∧
    (∀ i t x σ' H', ts[i]? = some t → m[i]? = some x → Pv i σ' H' → g (.ref t) σ' H' fun σ2 H2 => tu { D with nx := Pv (i + 1), ct := Pv (i + 1), bk := tz D } σ2 H2) ∧ (∀ σ' H', Pv m.length σ' H' → tz D σ' H')) : tSeq (tFor (iList K tl) g tu) tz D σ H :=
  h H (Ex.refl H) _ fun d ts H1 hd e1 h1 hE _ => ⟨d, rfl, ⟨_, sq_of h1⟩, by
  obtain ⟨Pv, p0, pe, ps, pd⟩ := k d ts H1 e1 hE
  refine for_list (xs := ts.map V.ref) Pv p0 (fun i σ' H' _ q => sq_of ((pe i σ' H' q) _ _ h1)) (fun i x σ' H' hi q => ?_) (fun σ' H' q => pd σ' H' (by rw [List.length_map, hE.1] at q; exact q))
  obtain ⟨t, ht, rfl⟩ := getE_map hi
  obtain ⟨y, hy, _⟩ := hE.at_ ht
  exact ps i t y σ' H' ht hy q⟩
/-- what stands for a slate that is better, or for none -/
def BetterV (p : Page) (s : List Nat) (v : V) (H : Hp) : Prop := match (Kp430.moves p s).find? (betterT p s) with
  | none => v = .non
  | some t => ∃ x, v = .ref x ∧ H x = some (.lst (t.map nV))
theorem BetterV.mono {p : Page} {s : List Nat} {v : V} {H H' : Hp} (h : BetterV p s v H) (e : Ex H H') : BetterV p s v H' := by
  unfold BetterV at *
  cases q : (Kp430.moves p s).find? (betterT p s) with
  | none => rw [q] at h; exact h
  | some t =>
    rw [q] at h
    obtain ⟨x, h1, h2⟩ := h
    exact ⟨x, h1, e _ _ h2⟩
structure AskS (K : PySem.W.Frag) (CC CP : Addr) (H : Hp) (a l : Addr) (p : Page) (s : List Nat) : Prop where
  pg : PageAt CC CP H a p
  wf : Wf p
  sl : Kp430.isSlate p s = true
  ls : H l = some (.lst (s.map nV))
theorem AskS.mono {H H' : Hp} {l : Addr} {s : List Nat} (h : AskS K CC CP H a l p s) (e : Ex H H') : AskS K CC CP H' a l p s := ⟨h.pg.mono e, h.wf, h.sl, e _ _ h.ls⟩
theorem AskS.asked {H : Hp} {l : Addr} {s : List Nat} (h : AskS K CC CP H a l p s) : Asked K CC CP [.ref a, .ref l] H a l p s := by
  obtain ⟨h1, h2, _⟩ := isSlate_iff.mp h.sl
  exact ⟨rfl, h.pg, h.wf, sq_of h.ls, h2, Nat.le_of_eq h1⟩
theorem AskS.len {H : Hp} {l : Addr} {s : List Nat} (h : AskS K CC CP H a l p s) : s.length = p.weights.length := (isSlate_iff.mp h.sl).1
def spBetter (K : PySem.W.Frag) (CC CP : Addr) : Sp := fun vs H Q _ => ∃ a l p s, vs = [.ref a, .ref l] ∧ AskS K CC CP H a l p s ∧ ∀ v H', Ex H H' → BetterV p s v H' → Q v H'
abbrev s_first_better : Stmt := topS 70
theorem sc_first_better : FnScope ["page", "slate", "present", "changed"] ["page", "slate"] (defScope s_first_better) := ⟨rfl, rfl, rfl, by decide +kernel, rfl, by decide +kernel, by decide +kernel⟩
theorem ok_first_better (T : Txt K mg CC CP CS) (F : FunAt K mg "first_better" s_first_better ["page", "slate"]) (D_value_of : DefAt P w K mg base 2 "value_of" ["page", "listed"] (spV (rVal K CC CP))) (D_exchanges : DefAt P w K mg base 2 "exchanges" ["slate"] (spE (rExch K)))
    (D_replacements : DefAt P w K mg base 2 "replacements" ["page", "slate"] (spE (rRepl K CC CP))) (D_is_feasible : DefAt P w K mg base 4 "is_feasible" ["page", "slate"] (spV (rFeas K CC CP))) : DefAt P w K mg base 5 "first_better" ["page", "slate"] (spBetter K CC CP) := by
  obtain ⟨f, fd, FF, hm, hb⟩ := F.ex
  refine ⟨f, fd, FF.ok sc_first_better (fun vs H Q E h => ?_) (fun cdv A outer s H vs Q E hr h => ⟨_, (pss_cons (ps_set (i := 2) sc_first_better.nd rfl (Or.inl rfl) (pe_cd D_value_of (hr.mono (by decide)) pass0 (pa_cons (pv 0) (pa_cons (pv 1) pa_nil))))
      (pss_cons (ps_for PassesOwn.never rfl (wList (K := K) (pe_op op_cat (pe_cd D_exchanges (hr.mono (by decide)) pass0 (pa_cons (pv 1) pa_nil)) (pe_cd D_replacements (hr.mono (by decide)) pass0 (pa_cons (pv 0) (pa_cons (pv 1) pa_nil))))) (pg_name (i := 3) sc_first_better.nd rfl (Or.inl rfl))
        (pss_one (ps_if (PW.pt (pw_and (pt_cmpR op_gt (pe_cd D_value_of (hr.mono (by decide)) pass0 (pa_cons (pv 0) (pa_cons (pv 3) pa_nil))) (pv 2) (nomark _)) (pw_and1 (pt_val (pe_cd D_is_feasible (hr.mono (by decide)) pass0 (pa_cons (pv 0) (pa_cons (pv 3) pa_nil))))))) (pss_one (ps_ret (pv 3))) pss_nil)))
      (pss_one (ps_ret pe_non)))), ?_⟩), hm, FF.kp, hb⟩
  · obtain ⟨_, _, _, _, rfl, _⟩ := h
    rfl
  · obtain ⟨a, l, p, s, rfl, hA, k⟩ := h
    have hlen := hA.len
    have hw5 := hA.wf.w5
    have hcn := hA.wf.cn
    refine q_asg (ev_cd (ea_cons (ev_var rfl) (ea_cons (ev_var rfl) ea_nil)) fun H1 e1 => ⟨a, l, p, s, (hA.mono e1).asked, rfl⟩) fun H1 e1 => ?_
    have z1 := exch_len s s.length
    have z2 := repl_len p s s.length
    have m1 : s.length * s.length ≤ 5 * 5 := Nat.mul_le_mul (by omega) (by omega)
    have m2 : s.length * p.candidates.length ≤ 5 * 9 := Nat.mul_le_mul (by omega) hcn
    refine q_forEach (EvEach.is (ee_cat (ee_cd (ea_cons (ev_var rfl) ea_nil) fun H2 e2 => ⟨l, s, rfl, sq_of ((e1.trans e2) _ _ hA.ls), by omega, rfl⟩) (ee_cd (ea_cons (ev_var rfl) (ea_cons (ev_var rfl) ea_nil)) fun H2 e2 => ⟨a, l, p, s, rfl, hA.pg.mono (e1.trans e2), hA.wf, sq_of ((e1.trans e2) _ _ hA.ls), by omega, rfl⟩) (by omega)) (moves_is p s).symm) fun d ts H2 e2 hE => ?_
    refine ⟨fun i σ' H' => ∃ v3, σ' = [some (.ref a), some (.ref l), some (nV (Kp430.value p s)), v3] ∧ Ex H2 H' ∧ ∀ y ∈ (Kp430.moves p s).take i, betterT p s y = false, ⟨none, rfl, Ex.refl _, fun y hy => by rw [List.take_zero] at hy; cases hy⟩, fun i σ' H' ⟨_, _, q, _⟩ => q, ?_, ?_⟩
    · rintro i t x σ' H' ht hx ⟨v3, rfl, eH, hno⟩
      have hxm := List.mem_of_getElem? hx
      have hsl := moves_slate hA.sl hxm
      have EH := (e1.trans e2).trans eH
      have hT : H' t = some (.lst (x.map nV)) := eH _ _ (hE.2 i t x ht hx)
      have hB : AskS K CC CP H' a t p x := ⟨hA.pg.mono EH, hA.wf, hsl, hT⟩
      have ebt : betterT p s x = (decide (Kp430.value p s < Kp430.value p x) && (Kp430.violation p x).isNone) := by
        unfold betterT Kp430.isFeasible
        rw [hsl, Bool.true_and, Bool.and_comm]
      refine s_when (b := betterT p s x) (et_is (et_and (et_test (ev_is (ev_op (ev_cd (ea_cons (ev_var (by rfl)) (ea_cons (ev_var (by rfl)) ea_nil)) fun H3 e3 => ⟨a, t, p, x, (hB.mono e3).asked, rfl⟩) (ev_var (by rfl)) rv_I0) (show V.bl (decide ((Kp430.value p x : Int) > (Kp430.value p s : Int))) = .bl (decide (Kp430.value p s < Kp430.value p x)) by congr 1; rw [decide_eq_decide]; omega)))
        fun _ => et_B (ev_cd (ea_cons (ev_var (by rfl)) (ea_cons (ev_var (by rfl)) ea_nil)) fun H3 e3 => ⟨a, t, p, x, (hB.mono e3).asked, hB.len, rfl⟩)) ebt.symm) (fun hq H3 e3 => ?_) (fun hq H3 e3 => ?_)
      · refine s_ret (ev_var (by rfl)) fun H4 e4 => k _ H4 (EH.trans (e3.trans e4)) ?_
        unfold BetterV
        rw [find_here hx hq hno]
        exact ⟨t, rfl, (e3.trans e4) _ _ hT⟩
      · refine ⟨_, rfl, eH.trans e3, fun y hy => ?_⟩
        rw [List.take_add_one, hx] at hy
        rcases List.mem_append.mp hy with hy | hy
        · exact hno y hy
        · rw [List.mem_singleton.mp hy]; exact hq
    · rintro σ' H' ⟨v3, rfl, eH, hno⟩
      rw [List.take_length] at hno
      refine s_ret ev_c fun H4 e4 => k _ H4 ((e1.trans e2).trans (eH.trans e4)) ?_
      unfold BetterV
      have : (Kp430.moves p s).find? (betterT p s) = none := by
        rw [List.find?_eq_none]
        intro y hy
        rw [hno y hy]
        decide
      rw [this]
theorem s_better {i : Nat} {tq : TA} {l : Addr} {s : List Nat} (h : EvA tq σ H [.ref a, .ref l]) (hA : AskS K CC CP H a l p s) (k : ∀ v H1, Ex H H1 → BetterV p s v H1 → D.nx (σ.set i (some v)) H1) : tAsg (tCall (spBetter K CC CP) [] E0 tq) (gName i) D σ H := h H (Ex.refl H) _ fun H1 e1 => by
  show spBetter K CC CP ([V.ref a, .ref l] ++ []) H1 _ E0
  exact ⟨a, l, p, s, rfl, hA.mono e1, fun v H2 e2 hv => k v H2 (e1.trans e2) hv⟩
abbrev s_improve : Stmt := topS 71
theorem sc_improve : FnScope ["page", "slate", "changes", "improved", "better"] ["page", "slate"] (defScope s_improve) := ⟨rfl, rfl, rfl, by decide +kernel, rfl, by decide +kernel, by decide +kernel⟩
theorem ok_improve (T : Txt K mg CC CP CS) (F : FunAt K mg "improve" s_improve ["page", "slate"]) (D_Page_is_slate : MethAt P w K mg base 3 CP "is_slate" ["self", "listed"] (spV (rIsS K CC CP))) (D_is_feasible : DefAt P w K mg base 4 "is_feasible" ["page", "slate"] (spV (rFeas K CC CP)))
    (D_first_better : DefAt P w K mg base 5 "first_better" ["page", "slate"] (spBetter K CC CP)) (D_value_of : DefAt P w K mg base 2 "value_of" ["page", "listed"] (spV (rVal K CC CP))) : DefAt P w K mg base 6 "improve" ["page", "slate"] (spL (rSlateQ K CC CP .improve)) := by
  obtain ⟨f, fd, FF, hm, hb⟩ := F.ex
  refine ⟨f, fd, FF.ok sc_improve (fun vs H Q E h => ?_) (fun cdv A outer s H vs Q E hr h => ⟨_, (pss_cons (ps_if (PW.pt (pw_or (pt_not (pt_val (pe_mt D_Page_is_slate T.cPage (hr.mono (by decide)) pass0 (pv 0) (pa_cons (pv 1) pa_nil)))) (pw_or1 (pt_not (pt_val (pe_cd D_is_feasible (hr.mono (by decide)) pass0 (pa_cons (pv 0) (pa_cons (pv 1) pa_nil)))))))) (pss_one (ps_ret (pe_lst (pa_cons (pe_gi T.OUTSIDE_LIMITS) pa_nil)))) pss_nil)
      (pss_cons (ps_set (i := 2) sc_improve.nd rfl (Or.inl rfl) pe_int)
      (pss_cons (ps_set (i := 3) sc_improve.nd rfl (Or.inl rfl) (pv 1))
      (pss_cons (ps_set (i := 4) sc_improve.nd rfl (Or.inl rfl) (pe_cd D_first_better (hr.mono (by decide)) pass0 (pa_cons (pv 0) (pa_cons (pv 3) pa_nil))))
      (pss_cons (ps_while PassesOwn.never (PW.pt (pw_and (pt_cmpR op_notN (pv 4) pe_non (nomark _)) (pw_and1 (pt_cmpR op_lt (pv 2) (pe_gi T.MOST_CHANGES) (nomark _)))))
        (pss_cons (ps_aug (i := 2) sc_improve.nd rfl (Or.inl rfl) pe_int ip_add)
      (pss_cons (ps_set (i := 3) sc_improve.nd rfl (Or.inl rfl) (pv 4))
      (pss_one (ps_set (i := 4) sc_improve.nd rfl (Or.inl rfl) (pe_cd D_first_better (hr.mono (by decide)) pass0 (pa_cons (pv 0) (pa_cons (pv 3) pa_nil))))))))
      (pss_one (ps_ret (pe_op op_cat (pe_lst (pa_cons (pv 2) (pa_cons (pe_cd D_value_of (hr.mono (by decide)) pass0 (pa_cons (pv 0) (pa_cons (pv 3) pa_nil))) pa_nil))) (pv 3))))))))), ?_⟩), hm, FF.kp, hb⟩
  · obtain ⟨z, ⟨_, _, _, _, ⟨rfl, _⟩, _⟩, _⟩ := h
    rfl
  · obtain ⟨z, ⟨a, l, p, s0, ⟨rfl, ⟨L, hp⟩, wf, hS, h12, hl0⟩, rfl⟩, k⟩ := h
    have hst : (Kp430.step (some p) (.improve s0)).2 = if Kp430.isFeasible p s0 = false then Kp430.single (-22) else Kp430.natResult (Kp430.improve p 1000 s0 0).2 (Kp430.value p (Kp430.improve p 1000 s0 0).1 :: (Kp430.improve p 1000 s0 0).1) := rfl
    rw [hst] at k
    have hw5 := wf.w5
    refine q_when (b := !Kp430.isFeasible p s0) (et_is (et_or (et_not (et_B (ev_isS T hp hS h12 (ev_var rfl) (ev_var rfl)))) fun hq => et_not (et_B (ev_cd (ea_cons (ev_var rfl) (ea_cons (ev_var rfl) ea_nil)) fun H1 e1 => by
        rw [Bool.not_eq_false'] at hq
        obtain ⟨h1, h2, _⟩ := slate_in hq
        exact ⟨a, l, p, s0, ⟨rfl, ⟨L, hp.mono e1⟩, wf, ex_l e1 hS, h2, Nat.le_of_eq h1⟩, h1, rfl⟩))) (by unfold Kp430.isFeasible; rw [Bool.not_and])) (fun hb H1 e1 => ?_) (fun hb H1 e1 => ?_)
    · rw [Bool.not_eq_true'] at hb
      rw [if_pos hb] at k
      exact retE ev_c e1 k
    · rw [Bool.not_eq_false'] at hb
      rw [if_neg (by rw [hb]; decide)] at k
      have hsl : Kp430.isSlate p s0 = true := by
        unfold Kp430.isFeasible at hb
        rw [Bool.and_eq_true] at hb
        exact hb.1
      refine q_asg ev_c fun H2 e2 => ?_
      refine q_asg (ev_var rfl) fun H3 e3 => ?_
      have E3 := (e1.trans e2).trans e3
      have hA : AskS K CC CP H3 a l p s0 := ⟨⟨L, hp.mono E3⟩, wf, hsl, E3 _ _ hl0⟩
      refine seq_of (s_better (ea_cons (ev_var rfl) (ea_cons (ev_var rfl) ea_nil)) hA fun v H4 e4 hv => ?_)
      refine q_while (fun m σ' H' => ∃ (n : Nat) (li : Addr) (s : List Nat) (v : V), σ' = [some (.ref a), some (.ref l), some (nV n), some (.ref li), some v] ∧ Ex H H' ∧ AskS K CC CP H' a li p s ∧ BetterV p s v H' ∧ n + m = 1000 ∧ Kp430.improve p m s n = Kp430.improve p 1000 s0 0) 1000
        ⟨0, l, s0, v, rfl, E3.trans e4, hA.mono e4, hv, rfl, rfl⟩ ?_
      rintro m σ' H' ⟨n, li, s, v, rfl, eH, hB, hv, hm, him⟩
      have fin : ∀ H5, Ex H' H5 → Kp430.improve p 1000 s0 0 = (s, n) → tRet (tOp rCat (tLst (tCons (tVar 2) (tCons (tCall (spV (rVal K CC CP)) [] E0 (tCons (tVar 0) (tCons (tVar 3) tNil))) tNil))) (tVar 3)) { nx := fun x H' => Q V.non H', rt := Q } [some (.ref a), some (.ref l), some (nV n), some (.ref li), some v] H5 := by
        intro H5 e5 hs
        rw [hs] at k
        have hB5 := hB.mono e5
        have hlen := hB.len
        refine s_retL (EvL.is (el_cc (ek_new (el_lst (ea_cons (ev_var rfl) (ea_cons (ev_cd (ea_cons (ev_var rfl) (ea_cons (ev_var rfl) ea_nil)) fun H6 e6 => ⟨a, li, p, s, (hB5.mono e6).asked, rfl⟩) ea_nil)) (by show 2 ≤ 100000; decide))) (ek_of (ev_var rfl) hB5.ls) (by rw [List.length_map]; show 2 + _ ≤ 100000; omega)) ?_) fun d H6 hd e6 h6 => k d H6 (fresh_back (eH.trans e5) hd) (eH.trans (e5.trans e6)) h6
        show _ = ((n : Int) :: (Kp430.value p s :: s).map fun n : Nat => (n : Int)).map V.int
        simp
      refine ⟨!decide (v = .non) && decide (n < 1000), et_and (et_test (ev_op (ev_var rfl) ev_c rv_notN)) fun _ => et_test (ev_is (ev_op (ev_var rfl) ev_c rv_I0) (show V.bl (decide ((n : Int) < 1000)) = .bl (decide (n < 1000)) by congr 1; rw [decide_eq_decide]; omega)), fun hb H5 e5 => ?_, fun hb H5 e5 => ?_⟩
      · rw [Bool.and_eq_true, decide_eq_true_eq, Bool.not_eq_true', decide_eq_false_iff_not] at hb
        obtain ⟨m, rfl⟩ : ∃ m', m = m' + 1 := ⟨m - 1, by omega⟩
        refine ⟨fun σ2 H3 => ∃ (n : Nat) (li : Addr) (s : List Nat) (v : V), σ2 = [some (.ref a), some (.ref l), some (nV n), some (.ref li), some v] ∧ Ex H H3 ∧ AskS K CC CP H3 a li p s ∧ BetterV p s v H3 ∧ n + m = 1000 ∧ Kp430.improve p m s n = Kp430.improve p 1000 s0 0, fun σ2 H3 q => ⟨m, Nat.lt_succ_self m, q⟩, ?_⟩
        have hv5 := hv.mono e5
        unfold BetterV at hv5
        cases hq : (Kp430.moves p s).find? (betterT p s) with
        | none => rw [hq] at hv5; exact absurd hv5 hb.1
        | some t =>
          rw [hq] at hv5
          obtain ⟨x, rfl, hx⟩ := hv5
          have ht := moves_slate hB.sl (List.mem_of_find?_eq_some hq)
          rw [improve_step, hq] at him
          refine q_aug rfl ev_c fun H6 e6 => ?_
          refine q_asg (ev_var rfl) fun H7 e7 => ?_
          have E7 := e5.trans (e6.trans e7)
          have hB7 : AskS K CC CP H7 a x p t := ⟨hB.pg.mono E7, wf, ht, (e6.trans e7) _ _ hx⟩
          exact s_better (ea_cons (ev_var rfl) (ea_cons (ev_var rfl) ea_nil)) hB7 fun u H8 e8 hu => ⟨n + 1, x, t, u, rfl, eH.trans (E7.trans e8), hB7.mono e8, hu, by omega, him⟩
      · refine fin H5 e5 ?_
        rw [← him]
        rw [Bool.and_eq_false_iff, Bool.not_eq_false', decide_eq_true_eq, decide_eq_false_iff_not] at hb
        rcases hb with hb | hb
        · refine improve_none _ _ ?_
          unfold BetterV at hv
          cases hq : (Kp430.moves p s).find? (betterT p s) with
          | none => rfl
          | some t =>
            rw [hq] at hv
            obtain ⟨x, hx, _⟩ := hv
            rw [hb] at hx
            cases hx
        · have : m = 0 := by omega
          subst this
          rfl
end
end Ps
end

section
set_option maxRecDepth 100000
set_option maxHeartbeats 4000000
namespace Ps
open PySem PySem.Spec PyProof.Rows L2 Evl LamX
open Kp430 (Page Candidate Quota)
/-! All questions. -/
section
variable {P : Program} {w : World} {K : PySem.W.Frag} {mg : Str → Option Value} {base : Heap} {CC CP CS : Addr} {σ : L2.St} {H : Hp} {D : Ends} {a : Addr} {L : Lay} {p : Page} {Tb : List (Addr × Str)}
theorem ret_LT {R : List V → Hp → List V → Prop} {E : XK} {tz : TA} {vs xs : List V} {H0 : Hp} (h : EvA tz σ H vs) (hT : Tabs Tb H) (r : ∀ H1, Ex H H1 → R vs H1 xs) (e : Ex H0 H) (k : RetLT Tb xs H0 D.rt) : tRet (tCall (spLT Tb R) [] E tz) D σ H := h H (Ex.refl H) _ fun H1 e1 => by
  rw [List.append_nil]
  exact ⟨xs, r H1 e1, hT.ext e1, k.later (exN (e.trans e1))⟩
abbrev s_ask : Stmt := topS 94
theorem sc_ask : FnScope ["page", "number", "numbers", "row"] ["page", "number", "numbers", "row"] (defScope s_ask) := ⟨rfl, rfl, rfl, by decide +kernel, rfl, by decide +kernel, by decide +kernel⟩
theorem ok_ask (T : Txt K mg CC CP CS) (F : FunAt K mg "ask" s_ask ["page", "number", "numbers", "row"]) (D_value : DefAt P w K mg base 4 "value" ["page", "slate"] (spL (rValue K CC CP)))
    (D_violation : DefAt P w K mg base 4 "violation" ["page", "slate"] (spL (rViolation K CC CP)))
    (D_gain : DefAt P w K mg base 4 "gain" ["page", "candidate", "beginning"] (spL (rGain K CC CP)))
    (D_greedy : DefAt P w K mg base 7 "greedy" ["page"] (spLT Tb (rPgA CC CP .greedy)))
    (D_improve : DefAt P w K mg base 6 "improve" ["page", "slate"] (spL (rSlateQ K CC CP .improve)))
    (D_best : DefAt P w K mg base 6 "best" ["page", "count"] (spLT Tb (rNum CC CP .best)))
    (D_count_feasible : DefAt P w K mg base 6 "count_feasible" ["page"] (spL (rPgA CC CP .countFeasible)))
    (D_bound : DefAt P w K mg base 4 "bound" ["page", "prices"] (spL (rBound K CC CP)))
    (D_tune : DefAt P w K mg base 5 "tune" ["page", "size", "rounds", "prices"] (spL (rTune K CC CP)))
    (D_gap : DefAt P w K mg base 6 "gap" ["page", "prices"] (spL (rGap K CC CP)))
    (D_exposure : DefAt P w K mg base 4 "exposure" ["page", "slate"] (spL (rSlateQ K CC CP .exposure)))
    (D_cover : DefAt P w K mg base 5 "cover" ["page", "count"] (spLT Tb (rNum CC CP .cover)))
    (D_cost_of : DefAt P w K mg base 6 "cost_of" ["page", "kind"] (spL (rNum CC CP .costOf)))
    (D_worth : DefAt P w K mg base 6 "worth" ["page", "candidate"] (spL (rNum CC CP .worth)))
    (D_candidate_info : DefAt P w K mg base 2 "candidate_info" ["page", "candidate"] (spL (rInfo CC CP)))
    (D_status : DefAt P w K mg base 1 "status" ["page"] (spL (rStatus CC CP))) :
    DefAt P w K mg base 9 "ask" ["page", "number", "numbers", "row"] (spLT Tb (rAsk K CC CP)) := by
  obtain ⟨f, fd, FF, hm, hb⟩ := F.ex
  refine ⟨f, fd, FF.ok sc_ask (fun vs H Q E h => ?_) (fun cdv A outer s H vs Q E hr h => ⟨_, (pss_cons (ps_if (pt_cmpR op_eq (pv 1) pe_int (nomark _)) (pss_one (ps_ret (pe_cd D_value (hr.mono (by decide)) pass0 (pa_cons (pv 0) (pa_cons (pv 3) pa_nil))))) pss_nil)
      (pss_cons (ps_if (pt_cmpR op_eq (pv 1) pe_int (nomark _)) (pss_one (ps_ret (pe_cd D_violation (hr.mono (by decide)) pass0 (pa_cons (pv 0) (pa_cons (pv 3) pa_nil))))) pss_nil)
      (pss_cons (ps_if (pt_cmpR op_eq (pv 1) pe_int (nomark _)) (pss_one (ps_ret (pe_cd D_gain (hr.mono (by decide)) pass0 (pa_cons (pv 0) (pa_cons (pe_ix (ixL (K := K)) (pv 2) pe_int (fun _ _ => rfl)) (pa_cons (pv 3) pa_nil)))))) pss_nil)
      (pss_cons (ps_if (pt_cmpR op_eq (pv 1) pe_int (nomark _)) (pss_one (ps_ret (pe_cd D_greedy (hr.mono (by decide)) pass0 (pa_cons (pv 0) pa_nil)))) pss_nil)
      (pss_cons (ps_if (pt_cmpR op_eq (pv 1) pe_int (nomark _)) (pss_one (ps_ret (pe_cd D_improve (hr.mono (by decide)) pass0 (pa_cons (pv 0) (pa_cons (pv 3) pa_nil))))) pss_nil)
      (pss_cons (ps_if (pt_cmpR op_eq (pv 1) pe_int (nomark _)) (pss_one (ps_ret (pe_cd D_best (hr.mono (by decide)) pass0 (pa_cons (pv 0) (pa_cons (pe_ix (ixL (K := K)) (pv 2) pe_int (fun _ _ => rfl)) pa_nil))))) pss_nil)
      (pss_cons (ps_if (pt_cmpR op_eq (pv 1) pe_int (nomark _)) (pss_one (ps_ret (pe_cd D_count_feasible (hr.mono (by decide)) pass0 (pa_cons (pv 0) pa_nil)))) pss_nil)
      (pss_cons (ps_if (pt_cmpR op_eq (pv 1) pe_int (nomark _)) (pss_one (ps_ret (pe_cd D_bound (hr.mono (by decide)) pass0 (pa_cons (pv 0) (pa_cons (pv 3) pa_nil))))) pss_nil)
      (pss_cons (ps_if (pt_cmpR op_eq (pv 1) pe_int (nomark _)) (pss_one (ps_ret (pe_cd D_tune (hr.mono (by decide)) pass0 (pa_cons (pv 0) (pa_cons (pe_ix (ixL (K := K)) (pv 2) pe_int (fun _ _ => rfl)) (pa_cons (pe_ix (ixL (K := K)) (pv 2) pe_int (fun _ _ => rfl)) (pa_cons (pv 3) pa_nil))))))) pss_nil)
      (pss_cons (ps_if (pt_cmpR op_eq (pv 1) pe_int (nomark _)) (pss_one (ps_ret (pe_cd D_gap (hr.mono (by decide)) pass0 (pa_cons (pv 0) (pa_cons (pv 3) pa_nil))))) pss_nil)
      (pss_cons (ps_if (pt_cmpR op_eq (pv 1) pe_int (nomark _)) (pss_one (ps_ret (pe_cd D_exposure (hr.mono (by decide)) pass0 (pa_cons (pv 0) (pa_cons (pv 3) pa_nil))))) pss_nil)
      (pss_cons (ps_if (pt_cmpR op_eq (pv 1) pe_int (nomark _)) (pss_one (ps_ret (pe_cd D_cover (hr.mono (by decide)) pass0 (pa_cons (pv 0) (pa_cons (pe_ix (ixL (K := K)) (pv 2) pe_int (fun _ _ => rfl)) pa_nil))))) pss_nil)
      (pss_cons (ps_if (pt_cmpR op_eq (pv 1) pe_int (nomark _)) (pss_one (ps_ret (pe_cd D_cost_of (hr.mono (by decide)) pass0 (pa_cons (pv 0) (pa_cons (pe_ix (ixL (K := K)) (pv 2) pe_int (fun _ _ => rfl)) pa_nil))))) pss_nil)
      (pss_cons (ps_if (pt_cmpR op_eq (pv 1) pe_int (nomark _)) (pss_one (ps_ret (pe_cd D_worth (hr.mono (by decide)) pass0 (pa_cons (pv 0) (pa_cons (pe_ix (ixL (K := K)) (pv 2) pe_int (fun _ _ => rfl)) pa_nil))))) pss_nil)
      (pss_cons (ps_if (pt_cmpR op_eq (pv 1) pe_int (nomark _)) (pss_one (ps_ret (pe_cd D_candidate_info (hr.mono (by decide)) pass0 (pa_cons (pv 0) (pa_cons (pe_ix (ixL (K := K)) (pv 2) pe_int (fun _ _ => rfl)) pa_nil))))) pss_nil)
      (pss_one (ps_ret (pe_cd D_status (hr.mono (by decide)) pass0 (pa_cons (pv 0) pa_nil))))))))))))))))))), ?_⟩), hm, FF.kp, hb⟩
  · obtain ⟨_, ⟨_, _, _, _, _, _, _, _, rfl, _⟩, _⟩ := h
    rfl
  · obtain ⟨z, ⟨a, p, n, ns, row, ln, lr, c, rfl, hpg, wf, hln, hlr, hr12, hc, rfl⟩, hTb, k⟩ := h
    cases hc with
    | c11 r =>
      rw [ints_nats] at hlr
      rw [List.length_map] at hr12
      refine q_yes (et_test (ev_op (ev_var rfl) ev_c (rv_eq rfl))) (by decide) fun H1 e1 => ?_
      have E : Ex H _ := e1
      exact ret_cd (ea_cons (ev_var rfl) (ea_cons (ev_var rfl) ea_nil)) (fun H0 e => ⟨a, lr, p, r, ⟨rfl, hpg.mono (E.trans e), wf, sq_of ((E.trans e) _ _ hlr), hr12, (E.trans e) _ _ hlr⟩, rfl⟩) E (k.ret hTb)
    | c12 r =>
      rw [ints_nats] at hlr
      rw [List.length_map] at hr12
      refine q_no (et_test (ev_op (ev_var rfl) ev_c (rv_eq rfl))) (by decide) fun H1 e1 => ?_
      refine q_yes (et_test (ev_op (ev_var rfl) ev_c (rv_eq rfl))) (by decide) fun H2 e2 => ?_
      have E : Ex H _ := (e1.trans e2)
      exact ret_cd (ea_cons (ev_var rfl) (ea_cons (ev_var rfl) ea_nil)) (fun H0 e => ⟨a, lr, p, r, ⟨rfl, hpg.mono (E.trans e), wf, sq_of ((E.trans e) _ _ hlr), hr12, (E.trans e) _ _ hlr⟩, rfl⟩) E (k.ret hTb)
    | c13 x r =>
      rw [ints_nats] at hlr
      rw [List.length_map] at hr12
      refine q_no (et_test (ev_op (ev_var rfl) ev_c (rv_eq rfl))) (by decide) fun H1 e1 => ?_
      refine q_no (et_test (ev_op (ev_var rfl) ev_c (rv_eq rfl))) (by decide) fun H2 e2 => ?_
      refine q_yes (et_test (ev_op (ev_var rfl) ev_c (rv_eq rfl))) (by decide) fun H3 e3 => ?_
      have E : Ex H _ := ((e1.trans e2).trans e3)
      exact ret_cd (ea_cons (ev_var rfl) (ea_cons (ev_ixS (es_of (ev_var (by rfl)) (sq_of (E _ _ hln))) ev_c (atI_nat (j := 0) rfl)) (ea_cons (ev_var rfl) ea_nil))) (fun H0 e => ⟨a, lr, p, x, r, rfl, ⟨rfl, hpg.mono (E.trans e), wf, sq_of ((E.trans e) _ _ hlr), hr12, (E.trans e) _ _ hlr⟩, rfl⟩) E (k.ret hTb)
    | c14 r =>
      refine q_no (et_test (ev_op (ev_var rfl) ev_c (rv_eq rfl))) (by decide) fun H1 e1 => ?_
      refine q_no (et_test (ev_op (ev_var rfl) ev_c (rv_eq rfl))) (by decide) fun H2 e2 => ?_
      refine q_no (et_test (ev_op (ev_var rfl) ev_c (rv_eq rfl))) (by decide) fun H3 e3 => ?_
      refine q_yes (et_test (ev_op (ev_var rfl) ev_c (rv_eq rfl))) (by decide) fun H4 e4 => ?_
      have E : Ex H _ := (((e1.trans e2).trans e3).trans e4)
      exact ret_LT (ea_cons (ev_var rfl) ea_nil) (hTb.ext E) (fun H0 e => ⟨a, p, rfl, hpg.mono (E.trans e), wf, rfl⟩) E k
    | c15 r =>
      rw [ints_nats] at hlr
      rw [List.length_map] at hr12
      refine q_no (et_test (ev_op (ev_var rfl) ev_c (rv_eq rfl))) (by decide) fun H1 e1 => ?_
      refine q_no (et_test (ev_op (ev_var rfl) ev_c (rv_eq rfl))) (by decide) fun H2 e2 => ?_
      refine q_no (et_test (ev_op (ev_var rfl) ev_c (rv_eq rfl))) (by decide) fun H3 e3 => ?_
      refine q_no (et_test (ev_op (ev_var rfl) ev_c (rv_eq rfl))) (by decide) fun H4 e4 => ?_
      refine q_yes (et_test (ev_op (ev_var rfl) ev_c (rv_eq rfl))) (by decide) fun H5 e5 => ?_
      have E : Ex H _ := ((((e1.trans e2).trans e3).trans e4).trans e5)
      exact ret_cd (ea_cons (ev_var rfl) (ea_cons (ev_var rfl) ea_nil)) (fun H0 e => ⟨a, lr, p, r, ⟨rfl, hpg.mono (E.trans e), wf, sq_of ((E.trans e) _ _ hlr), hr12, (E.trans e) _ _ hlr⟩, rfl⟩) E (k.ret hTb)
    | c16 x r =>
      refine q_no (et_test (ev_op (ev_var rfl) ev_c (rv_eq rfl))) (by decide) fun H1 e1 => ?_
      refine q_no (et_test (ev_op (ev_var rfl) ev_c (rv_eq rfl))) (by decide) fun H2 e2 => ?_
      refine q_no (et_test (ev_op (ev_var rfl) ev_c (rv_eq rfl))) (by decide) fun H3 e3 => ?_
      refine q_no (et_test (ev_op (ev_var rfl) ev_c (rv_eq rfl))) (by decide) fun H4 e4 => ?_
      refine q_no (et_test (ev_op (ev_var rfl) ev_c (rv_eq rfl))) (by decide) fun H5 e5 => ?_
      refine q_yes (et_test (ev_op (ev_var rfl) ev_c (rv_eq rfl))) (by decide) fun H6 e6 => ?_
      have E : Ex H _ := (((((e1.trans e2).trans e3).trans e4).trans e5).trans e6)
      exact ret_LT (ea_cons (ev_var rfl) (ea_cons (ev_ixS (es_of (ev_var (by rfl)) (sq_of (E _ _ hln))) ev_c (atI_nat (j := 0) rfl)) ea_nil)) (hTb.ext E) (fun H0 e => ⟨a, p, x, rfl, hpg.mono (E.trans e), wf, rfl⟩) E k
    | c17 r =>
      refine q_no (et_test (ev_op (ev_var rfl) ev_c (rv_eq rfl))) (by decide) fun H1 e1 => ?_
      refine q_no (et_test (ev_op (ev_var rfl) ev_c (rv_eq rfl))) (by decide) fun H2 e2 => ?_
      refine q_no (et_test (ev_op (ev_var rfl) ev_c (rv_eq rfl))) (by decide) fun H3 e3 => ?_
      refine q_no (et_test (ev_op (ev_var rfl) ev_c (rv_eq rfl))) (by decide) fun H4 e4 => ?_
      refine q_no (et_test (ev_op (ev_var rfl) ev_c (rv_eq rfl))) (by decide) fun H5 e5 => ?_
      refine q_no (et_test (ev_op (ev_var rfl) ev_c (rv_eq rfl))) (by decide) fun H6 e6 => ?_
      refine q_yes (et_test (ev_op (ev_var rfl) ev_c (rv_eq rfl))) (by decide) fun H7 e7 => ?_
      have E : Ex H _ := ((((((e1.trans e2).trans e3).trans e4).trans e5).trans e6).trans e7)
      exact ret_cd (ea_cons (ev_var rfl) ea_nil) (fun H0 e => ⟨a, p, rfl, hpg.mono (E.trans e), wf, rfl⟩) E (k.ret hTb)
    | c18 r =>
      refine q_no (et_test (ev_op (ev_var rfl) ev_c (rv_eq rfl))) (by decide) fun H1 e1 => ?_
      refine q_no (et_test (ev_op (ev_var rfl) ev_c (rv_eq rfl))) (by decide) fun H2 e2 => ?_
      refine q_no (et_test (ev_op (ev_var rfl) ev_c (rv_eq rfl))) (by decide) fun H3 e3 => ?_
      refine q_no (et_test (ev_op (ev_var rfl) ev_c (rv_eq rfl))) (by decide) fun H4 e4 => ?_
      refine q_no (et_test (ev_op (ev_var rfl) ev_c (rv_eq rfl))) (by decide) fun H5 e5 => ?_
      refine q_no (et_test (ev_op (ev_var rfl) ev_c (rv_eq rfl))) (by decide) fun H6 e6 => ?_
      refine q_no (et_test (ev_op (ev_var rfl) ev_c (rv_eq rfl))) (by decide) fun H7 e7 => ?_
      refine q_yes (et_test (ev_op (ev_var rfl) ev_c (rv_eq rfl))) (by decide) fun H8 e8 => ?_
      have E : Ex H _ := (((((((e1.trans e2).trans e3).trans e4).trans e5).trans e6).trans e7).trans e8)
      exact ret_cd (ea_cons (ev_var rfl) (ea_cons (ev_var rfl) ea_nil)) (fun H0 e => ⟨a, lr, p, row, rfl, ⟨hpg.mono (E.trans e), wf, (E.trans e) _ _ hlr, hr12⟩, rfl⟩) E (k.ret hTb)
    | c19 x y r =>
      refine q_no (et_test (ev_op (ev_var rfl) ev_c (rv_eq rfl))) (by decide) fun H1 e1 => ?_
      refine q_no (et_test (ev_op (ev_var rfl) ev_c (rv_eq rfl))) (by decide) fun H2 e2 => ?_
      refine q_no (et_test (ev_op (ev_var rfl) ev_c (rv_eq rfl))) (by decide) fun H3 e3 => ?_
      refine q_no (et_test (ev_op (ev_var rfl) ev_c (rv_eq rfl))) (by decide) fun H4 e4 => ?_
      refine q_no (et_test (ev_op (ev_var rfl) ev_c (rv_eq rfl))) (by decide) fun H5 e5 => ?_
      refine q_no (et_test (ev_op (ev_var rfl) ev_c (rv_eq rfl))) (by decide) fun H6 e6 => ?_
      refine q_no (et_test (ev_op (ev_var rfl) ev_c (rv_eq rfl))) (by decide) fun H7 e7 => ?_
      refine q_no (et_test (ev_op (ev_var rfl) ev_c (rv_eq rfl))) (by decide) fun H8 e8 => ?_
      refine q_yes (et_test (ev_op (ev_var rfl) ev_c (rv_eq rfl))) (by decide) fun H9 e9 => ?_
      have E : Ex H _ := ((((((((e1.trans e2).trans e3).trans e4).trans e5).trans e6).trans e7).trans e8).trans e9)
      exact ret_cd (ea_cons (ev_var rfl) (ea_cons (ev_ixS (es_of (ev_var (by rfl)) (sq_of (E _ _ hln))) ev_c (atI_nat (j := 0) rfl)) (ea_cons (ev_ixS (es_of (ev_var (by rfl)) (sq_of (E _ _ hln))) ev_c (atI_nat (j := 1) rfl)) (ea_cons (ev_var rfl) ea_nil)))) (fun H0 e => ⟨a, lr, p, row, x, y, rfl, ⟨hpg.mono (E.trans e), wf, (E.trans e) _ _ hlr, hr12⟩, rfl⟩) E (k.ret hTb)
    | c20 r =>
      refine q_no (et_test (ev_op (ev_var rfl) ev_c (rv_eq rfl))) (by decide) fun H1 e1 => ?_
      refine q_no (et_test (ev_op (ev_var rfl) ev_c (rv_eq rfl))) (by decide) fun H2 e2 => ?_
      refine q_no (et_test (ev_op (ev_var rfl) ev_c (rv_eq rfl))) (by decide) fun H3 e3 => ?_
      refine q_no (et_test (ev_op (ev_var rfl) ev_c (rv_eq rfl))) (by decide) fun H4 e4 => ?_
      refine q_no (et_test (ev_op (ev_var rfl) ev_c (rv_eq rfl))) (by decide) fun H5 e5 => ?_
      refine q_no (et_test (ev_op (ev_var rfl) ev_c (rv_eq rfl))) (by decide) fun H6 e6 => ?_
      refine q_no (et_test (ev_op (ev_var rfl) ev_c (rv_eq rfl))) (by decide) fun H7 e7 => ?_
      refine q_no (et_test (ev_op (ev_var rfl) ev_c (rv_eq rfl))) (by decide) fun H8 e8 => ?_
      refine q_no (et_test (ev_op (ev_var rfl) ev_c (rv_eq rfl))) (by decide) fun H9 e9 => ?_
      refine q_yes (et_test (ev_op (ev_var rfl) ev_c (rv_eq rfl))) (by decide) fun H10 e10 => ?_
      have E : Ex H _ := (((((((((e1.trans e2).trans e3).trans e4).trans e5).trans e6).trans e7).trans e8).trans e9).trans e10)
      exact ret_cd (ea_cons (ev_var rfl) (ea_cons (ev_var rfl) ea_nil)) (fun H0 e => ⟨a, lr, p, row, rfl, ⟨hpg.mono (E.trans e), wf, (E.trans e) _ _ hlr, hr12⟩, rfl⟩) E (k.ret hTb)
    | c21 r =>
      rw [ints_nats] at hlr
      rw [List.length_map] at hr12
      refine q_no (et_test (ev_op (ev_var rfl) ev_c (rv_eq rfl))) (by decide) fun H1 e1 => ?_
      refine q_no (et_test (ev_op (ev_var rfl) ev_c (rv_eq rfl))) (by decide) fun H2 e2 => ?_
      refine q_no (et_test (ev_op (ev_var rfl) ev_c (rv_eq rfl))) (by decide) fun H3 e3 => ?_
      refine q_no (et_test (ev_op (ev_var rfl) ev_c (rv_eq rfl))) (by decide) fun H4 e4 => ?_
      refine q_no (et_test (ev_op (ev_var rfl) ev_c (rv_eq rfl))) (by decide) fun H5 e5 => ?_
      refine q_no (et_test (ev_op (ev_var rfl) ev_c (rv_eq rfl))) (by decide) fun H6 e6 => ?_
      refine q_no (et_test (ev_op (ev_var rfl) ev_c (rv_eq rfl))) (by decide) fun H7 e7 => ?_
      refine q_no (et_test (ev_op (ev_var rfl) ev_c (rv_eq rfl))) (by decide) fun H8 e8 => ?_
      refine q_no (et_test (ev_op (ev_var rfl) ev_c (rv_eq rfl))) (by decide) fun H9 e9 => ?_
      refine q_no (et_test (ev_op (ev_var rfl) ev_c (rv_eq rfl))) (by decide) fun H10 e10 => ?_
      refine q_yes (et_test (ev_op (ev_var rfl) ev_c (rv_eq rfl))) (by decide) fun H11 e11 => ?_
      have E : Ex H _ := ((((((((((e1.trans e2).trans e3).trans e4).trans e5).trans e6).trans e7).trans e8).trans e9).trans e10).trans e11)
      exact ret_cd (ea_cons (ev_var rfl) (ea_cons (ev_var rfl) ea_nil)) (fun H0 e => ⟨a, lr, p, r, ⟨rfl, hpg.mono (E.trans e), wf, sq_of ((E.trans e) _ _ hlr), hr12, (E.trans e) _ _ hlr⟩, rfl⟩) E (k.ret hTb)
    | c22 x r =>
      refine q_no (et_test (ev_op (ev_var rfl) ev_c (rv_eq rfl))) (by decide) fun H1 e1 => ?_
      refine q_no (et_test (ev_op (ev_var rfl) ev_c (rv_eq rfl))) (by decide) fun H2 e2 => ?_
      refine q_no (et_test (ev_op (ev_var rfl) ev_c (rv_eq rfl))) (by decide) fun H3 e3 => ?_
      refine q_no (et_test (ev_op (ev_var rfl) ev_c (rv_eq rfl))) (by decide) fun H4 e4 => ?_
      refine q_no (et_test (ev_op (ev_var rfl) ev_c (rv_eq rfl))) (by decide) fun H5 e5 => ?_
      refine q_no (et_test (ev_op (ev_var rfl) ev_c (rv_eq rfl))) (by decide) fun H6 e6 => ?_
      refine q_no (et_test (ev_op (ev_var rfl) ev_c (rv_eq rfl))) (by decide) fun H7 e7 => ?_
      refine q_no (et_test (ev_op (ev_var rfl) ev_c (rv_eq rfl))) (by decide) fun H8 e8 => ?_
      refine q_no (et_test (ev_op (ev_var rfl) ev_c (rv_eq rfl))) (by decide) fun H9 e9 => ?_
      refine q_no (et_test (ev_op (ev_var rfl) ev_c (rv_eq rfl))) (by decide) fun H10 e10 => ?_
      refine q_no (et_test (ev_op (ev_var rfl) ev_c (rv_eq rfl))) (by decide) fun H11 e11 => ?_
      refine q_yes (et_test (ev_op (ev_var rfl) ev_c (rv_eq rfl))) (by decide) fun H12 e12 => ?_
      have E : Ex H _ := (((((((((((e1.trans e2).trans e3).trans e4).trans e5).trans e6).trans e7).trans e8).trans e9).trans e10).trans e11).trans e12)
      exact ret_LT (ea_cons (ev_var rfl) (ea_cons (ev_ixS (es_of (ev_var (by rfl)) (sq_of (E _ _ hln))) ev_c (atI_nat (j := 0) rfl)) ea_nil)) (hTb.ext E) (fun H0 e => ⟨a, p, x, rfl, hpg.mono (E.trans e), wf, rfl⟩) E k
    | c23 x r =>
      refine q_no (et_test (ev_op (ev_var rfl) ev_c (rv_eq rfl))) (by decide) fun H1 e1 => ?_
      refine q_no (et_test (ev_op (ev_var rfl) ev_c (rv_eq rfl))) (by decide) fun H2 e2 => ?_
      refine q_no (et_test (ev_op (ev_var rfl) ev_c (rv_eq rfl))) (by decide) fun H3 e3 => ?_
      refine q_no (et_test (ev_op (ev_var rfl) ev_c (rv_eq rfl))) (by decide) fun H4 e4 => ?_
      refine q_no (et_test (ev_op (ev_var rfl) ev_c (rv_eq rfl))) (by decide) fun H5 e5 => ?_
      refine q_no (et_test (ev_op (ev_var rfl) ev_c (rv_eq rfl))) (by decide) fun H6 e6 => ?_
      refine q_no (et_test (ev_op (ev_var rfl) ev_c (rv_eq rfl))) (by decide) fun H7 e7 => ?_
      refine q_no (et_test (ev_op (ev_var rfl) ev_c (rv_eq rfl))) (by decide) fun H8 e8 => ?_
      refine q_no (et_test (ev_op (ev_var rfl) ev_c (rv_eq rfl))) (by decide) fun H9 e9 => ?_
      refine q_no (et_test (ev_op (ev_var rfl) ev_c (rv_eq rfl))) (by decide) fun H10 e10 => ?_
      refine q_no (et_test (ev_op (ev_var rfl) ev_c (rv_eq rfl))) (by decide) fun H11 e11 => ?_
      refine q_no (et_test (ev_op (ev_var rfl) ev_c (rv_eq rfl))) (by decide) fun H12 e12 => ?_
      refine q_yes (et_test (ev_op (ev_var rfl) ev_c (rv_eq rfl))) (by decide) fun H13 e13 => ?_
      have E : Ex H _ := ((((((((((((e1.trans e2).trans e3).trans e4).trans e5).trans e6).trans e7).trans e8).trans e9).trans e10).trans e11).trans e12).trans e13)
      exact ret_cd (ea_cons (ev_var rfl) (ea_cons (ev_ixS (es_of (ev_var (by rfl)) (sq_of (E _ _ hln))) ev_c (atI_nat (j := 0) rfl)) ea_nil)) (fun H0 e => ⟨a, p, x, rfl, hpg.mono (E.trans e), wf, rfl⟩) E (k.ret hTb)
    | c24 x r =>
      refine q_no (et_test (ev_op (ev_var rfl) ev_c (rv_eq rfl))) (by decide) fun H1 e1 => ?_
      refine q_no (et_test (ev_op (ev_var rfl) ev_c (rv_eq rfl))) (by decide) fun H2 e2 => ?_
      refine q_no (et_test (ev_op (ev_var rfl) ev_c (rv_eq rfl))) (by decide) fun H3 e3 => ?_
      refine q_no (et_test (ev_op (ev_var rfl) ev_c (rv_eq rfl))) (by decide) fun H4 e4 => ?_
      refine q_no (et_test (ev_op (ev_var rfl) ev_c (rv_eq rfl))) (by decide) fun H5 e5 => ?_
      refine q_no (et_test (ev_op (ev_var rfl) ev_c (rv_eq rfl))) (by decide) fun H6 e6 => ?_
      refine q_no (et_test (ev_op (ev_var rfl) ev_c (rv_eq rfl))) (by decide) fun H7 e7 => ?_
      refine q_no (et_test (ev_op (ev_var rfl) ev_c (rv_eq rfl))) (by decide) fun H8 e8 => ?_
      refine q_no (et_test (ev_op (ev_var rfl) ev_c (rv_eq rfl))) (by decide) fun H9 e9 => ?_
      refine q_no (et_test (ev_op (ev_var rfl) ev_c (rv_eq rfl))) (by decide) fun H10 e10 => ?_
      refine q_no (et_test (ev_op (ev_var rfl) ev_c (rv_eq rfl))) (by decide) fun H11 e11 => ?_
      refine q_no (et_test (ev_op (ev_var rfl) ev_c (rv_eq rfl))) (by decide) fun H12 e12 => ?_
      refine q_no (et_test (ev_op (ev_var rfl) ev_c (rv_eq rfl))) (by decide) fun H13 e13 => ?_
      refine q_yes (et_test (ev_op (ev_var rfl) ev_c (rv_eq rfl))) (by decide) fun H14 e14 => ?_
      have E : Ex H _ := (((((((((((((e1.trans e2).trans e3).trans e4).trans e5).trans e6).trans e7).trans e8).trans e9).trans e10).trans e11).trans e12).trans e13).trans e14)
      exact ret_cd (ea_cons (ev_var rfl) (ea_cons (ev_ixS (es_of (ev_var (by rfl)) (sq_of (E _ _ hln))) ev_c (atI_nat (j := 0) rfl)) ea_nil)) (fun H0 e => ⟨a, p, x, rfl, hpg.mono (E.trans e), wf, rfl⟩) E (k.ret hTb)
    | c25 x r =>
      refine q_no (et_test (ev_op (ev_var rfl) ev_c (rv_eq rfl))) (by decide) fun H1 e1 => ?_
      refine q_no (et_test (ev_op (ev_var rfl) ev_c (rv_eq rfl))) (by decide) fun H2 e2 => ?_
      refine q_no (et_test (ev_op (ev_var rfl) ev_c (rv_eq rfl))) (by decide) fun H3 e3 => ?_
      refine q_no (et_test (ev_op (ev_var rfl) ev_c (rv_eq rfl))) (by decide) fun H4 e4 => ?_
      refine q_no (et_test (ev_op (ev_var rfl) ev_c (rv_eq rfl))) (by decide) fun H5 e5 => ?_
      refine q_no (et_test (ev_op (ev_var rfl) ev_c (rv_eq rfl))) (by decide) fun H6 e6 => ?_
      refine q_no (et_test (ev_op (ev_var rfl) ev_c (rv_eq rfl))) (by decide) fun H7 e7 => ?_
      refine q_no (et_test (ev_op (ev_var rfl) ev_c (rv_eq rfl))) (by decide) fun H8 e8 => ?_
      refine q_no (et_test (ev_op (ev_var rfl) ev_c (rv_eq rfl))) (by decide) fun H9 e9 => ?_
      refine q_no (et_test (ev_op (ev_var rfl) ev_c (rv_eq rfl))) (by decide) fun H10 e10 => ?_
      refine q_no (et_test (ev_op (ev_var rfl) ev_c (rv_eq rfl))) (by decide) fun H11 e11 => ?_
      refine q_no (et_test (ev_op (ev_var rfl) ev_c (rv_eq rfl))) (by decide) fun H12 e12 => ?_
      refine q_no (et_test (ev_op (ev_var rfl) ev_c (rv_eq rfl))) (by decide) fun H13 e13 => ?_
      refine q_no (et_test (ev_op (ev_var rfl) ev_c (rv_eq rfl))) (by decide) fun H14 e14 => ?_
      refine q_yes (et_test (ev_op (ev_var rfl) ev_c (rv_eq rfl))) (by decide) fun H15 e15 => ?_
      have E : Ex H _ := ((((((((((((((e1.trans e2).trans e3).trans e4).trans e5).trans e6).trans e7).trans e8).trans e9).trans e10).trans e11).trans e12).trans e13).trans e14).trans e15)
      exact ret_cd (ea_cons (ev_var rfl) (ea_cons (ev_ixS (es_of (ev_var (by rfl)) (sq_of (E _ _ hln))) ev_c (atI_nat (j := 0) rfl)) ea_nil)) (fun H0 e => ⟨a, p, x, rfl, hpg.mono (E.trans e), wf, rfl⟩) E (k.ret hTb)
    | c26 r =>
      refine q_no (et_test (ev_op (ev_var rfl) ev_c (rv_eq rfl))) (by decide) fun H1 e1 => ?_
      refine q_no (et_test (ev_op (ev_var rfl) ev_c (rv_eq rfl))) (by decide) fun H2 e2 => ?_
      refine q_no (et_test (ev_op (ev_var rfl) ev_c (rv_eq rfl))) (by decide) fun H3 e3 => ?_
      refine q_no (et_test (ev_op (ev_var rfl) ev_c (rv_eq rfl))) (by decide) fun H4 e4 => ?_
      refine q_no (et_test (ev_op (ev_var rfl) ev_c (rv_eq rfl))) (by decide) fun H5 e5 => ?_
      refine q_no (et_test (ev_op (ev_var rfl) ev_c (rv_eq rfl))) (by decide) fun H6 e6 => ?_
      refine q_no (et_test (ev_op (ev_var rfl) ev_c (rv_eq rfl))) (by decide) fun H7 e7 => ?_
      refine q_no (et_test (ev_op (ev_var rfl) ev_c (rv_eq rfl))) (by decide) fun H8 e8 => ?_
      refine q_no (et_test (ev_op (ev_var rfl) ev_c (rv_eq rfl))) (by decide) fun H9 e9 => ?_
      refine q_no (et_test (ev_op (ev_var rfl) ev_c (rv_eq rfl))) (by decide) fun H10 e10 => ?_
      refine q_no (et_test (ev_op (ev_var rfl) ev_c (rv_eq rfl))) (by decide) fun H11 e11 => ?_
      refine q_no (et_test (ev_op (ev_var rfl) ev_c (rv_eq rfl))) (by decide) fun H12 e12 => ?_
      refine q_no (et_test (ev_op (ev_var rfl) ev_c (rv_eq rfl))) (by decide) fun H13 e13 => ?_
      refine q_no (et_test (ev_op (ev_var rfl) ev_c (rv_eq rfl))) (by decide) fun H14 e14 => ?_
      refine q_no (et_test (ev_op (ev_var rfl) ev_c (rv_eq rfl))) (by decide) fun H15 e15 => ?_
      have E : Ex H _ := ((((((((((((((e1.trans e2).trans e3).trans e4).trans e5).trans e6).trans e7).trans e8).trans e9).trans e10).trans e11).trans e12).trans e13).trans e14).trans e15)
      exact ret_cd (ea_cons (ev_var rfl) ea_nil) (fun H0 e => ⟨a, p, rfl, hpg.mono (E.trans e), wf, rfl⟩) E (k.ret hTb)
end
end Ps
end

section
set_option maxRecDepth 100000
set_option maxHeartbeats 2000000
namespace Ps
open PySem PySem.Spec PyProof.Rows L2 Evl LamX
open Kp430 (Page Candidate Quota)
/-! Tables of code and their code objects, kept beside what stands. -/
def isT (o : Option HO) : Prop := (∃ ps, o = some (.tbl ps)) ∨ ∃ c q, o = some (CodeO c q)
open Classical in
noncomputable def withT (Hs H : Hp) : Hp := fun b => if isT (H b) then H b else Hs b
theorem withT_no {Hs H : Hp} {b : Addr} (h : ¬ isT (H b)) : withT Hs H b = Hs b := if_neg h
theorem withT_yes {Hs H : Hp} {b : Addr} (h : isT (H b)) : withT Hs H b = H b := if_pos h
theorem noT_l {H : Hp} {b : Addr} {xs : List V} (h : H b = some (.lst xs)) : ¬ isT (H b) := by
  rw [h]
  rintro (⟨_, e⟩ | ⟨_, _, e⟩)
  · cases e
  · unfold CodeO at e; cases e
theorem noT_t {H : Hp} {b : Addr} {xs : List V} (h : H b = some (.tup xs)) : ¬ isT (H b) := by
  rw [h]
  rintro (⟨_, e⟩ | ⟨_, _, e⟩)
  · cases e
  · unfold CodeO at e; cases e
theorem noT_i {H : Hp} {b c x : Addr} {fs : List (Str × V)} (h : H b = some (.ins c x fs)) : ¬ isT (H b) := by
  rw [h]
  rintro (⟨_, e⟩ | ⟨_, _, e⟩)
  · cases e
  · unfold CodeO at e; cases e
theorem withT_ex {Hs H : Hp} (e : Ex Hs H) : Ex (withT Hs H) H := fun b o h => by
  by_cases q : isT (H b)
  · rw [withT_yes q] at h; exact h
  · rw [withT_no q] at h; exact e _ _ h
theorem withT_sub {Hs H : Hp} (e : Ex Hs H) : Ex Hs (withT Hs H) := fun b o h => by
  by_cases q : isT (H b)
  · rw [withT_yes q]; exact e _ _ h
  · rw [withT_no q]; exact h
theorem withT_none {Hs H : Hp} {b : Addr} (h : withT Hs H b = none) : Hs b = none := by
  by_cases q : isT (H b)
  · rw [withT_yes q] at h
    rcases q with ⟨_, e⟩ | ⟨_, _, e⟩ <;> rw [e] at h <;> cases h
  · rw [withT_no q] at h; exact h
theorem withT_src {Hs H : Hp} {b : Addr} {xs : List V} (e : Ex Hs H) (h : src Hs b = some (.lst xs)) : src (withT Hs H) b = some (.lst xs) := by
  obtain ⟨t, x, y, q⟩ := src_mark h
  have hb := src_ex _ _ h
  rw [src_of (t := t) (x := x) (y := y) (by rw [withT_no (noT_t (e _ _ q))]; exact q), withT_no (noT_l (e _ _ hb))]
  exact hb
theorem src_withT {Hs H : Hp} {b : Addr} {xs : List V} (h : src (withT Hs H) b = some (.lst xs)) : src Hs b = some (.lst xs) := by
  obtain ⟨t, x, y, q⟩ := src_mark h
  have hb := src_ex _ _ h
  have nt : ¬ isT (H t) := fun z => by
    rw [withT_yes z] at q
    exact noT_t q z
  have nb : ¬ isT (H b) := fun z => by
    rw [withT_yes z] at hb
    exact noT_l hb z
  rw [withT_no nt] at q
  rw [withT_no nb] at hb
  rw [src_of q]
  exact hb
theorem tabs_withT {Tb : List (Addr × Str)} {Hs H : Hp} (h : Tabs Tb H) : Tabs Tb (withT Hs H) := fun p hp => by
  obtain ⟨ps, q1, q2, q3⟩ := h p hp
  refine ⟨ps, by rw [withT_yes (.inl ⟨_, q1⟩)]; exact q1, q2, fun pos cv hc => ?_⟩
  obtain ⟨c, e1, e2⟩ := q3 pos cv hc
  exact ⟨c, e1, by rw [withT_yes (.inr ⟨_, _, e2⟩)]; exact e2⟩
section
variable {CC CP CS : Addr} {H Hs : Hp} {a : Addr} {L : Lay} {p : Page}
theorem page_withT (h : PageIn CC CP Hs H a p) : PageIn CC CP (withT Hs H) H a p := by
  obtain ⟨L, hp, A⟩ := h
  have nl : ∀ b ∈ [L.ac, L.aq, L.af, L.ap], ¬ isT (H b) := fun b hb => by
    simp only [List.mem_cons, List.not_mem_nil, or_false] at hb
    rcases hb with rfl | rfl | rfl | rfl
    · exact noT_l hp.hc
    · exact noT_l hp.hq
    · exact noT_l hp.hf
    · exact noT_l hp.hp
  refine ⟨L, hp, withT_ex A.ex, withT_src A.ex A.hw, fun i c k h1 h2 => withT_src A.ex (A.ht i c k h1 h2), by rw [withT_no (noT_i hp.ins)]; exact A.na, fun b hb => by rw [withT_no (nl b hb)]; exact A.nl b hb, fun c hc => ?_, A.nd, A.cd⟩
  obtain ⟨i, hi, rfl⟩ := List.getElem_of_mem hc
  have hi2 : i < p.candidates.length := by rw [← hp.hcl]; exact hi
  rw [withT_no (noT_i (hp.hca i _ _ (List.getElem?_eq_getElem hi) (List.getElem?_eq_getElem hi2)).ins)]
  exact A.nc _ hc
theorem page_backT {H0 : Hp} (e : Ex Hs H0) (h : PageIn CC CP (withT Hs H0) H a p) : PageIn CC CP Hs H a p := by
  obtain ⟨L, hp, A⟩ := h
  exact ⟨L, hp, (withT_sub e).trans A.ex, src_withT A.hw, fun i c k h1 h2 => src_withT (A.ht i c k h1 h2), withT_none A.na, fun b hb => withT_none (A.nl b hb), fun c hc => withT_none (A.nc c hc), A.nd, A.cd⟩
theorem st_withT {S : Addr} {st : Kp430.State} (h : StIn CC CP CS Hs H S st) : StIn CC CP CS (withT Hs H) H S st := by
  obtain ⟨dx, v, h1, h2, h3, h4⟩ := h
  refine ⟨dx, v, h1, by rw [withT_no (noT_i h1)]; exact h2, withT_ex h3, ?_⟩
  cases st with
  | none => exact h4
  | some p =>
    obtain ⟨a, q1, q2, q3⟩ := h4
    exact ⟨a, q1, page_withT q2, q3⟩
theorem st_backT {H0 : Hp} {S : Addr} {st : Kp430.State} (e : Ex Hs H0) (h : StIn CC CP CS (withT Hs H0) H S st) : StIn CC CP CS Hs H S st := by
  obtain ⟨dx, v, h1, h2, h3, h4⟩ := h
  refine ⟨dx, v, h1, withT_none h2, (withT_sub e).trans h3, ?_⟩
  cases st with
  | none => exact h4
  | some p =>
    obtain ⟨a, q1, q2, q3⟩ := h4
    exact ⟨a, q1, page_backT e q2, q3⟩
/-! what grows are tables alone -/
def NoTbl (Hs : Hp) : Prop := ∀ b ps, Hs b ≠ some (.tbl ps)
theorem NoTbl.upd {S : Addr} {o : HO} (h : NoTbl Hs) (ho : ∀ ps, o ≠ .tbl ps) : NoTbl (upd Hs S o) := fun b ps e => by
  by_cases z : b = S
  · rw [z, upd_same] at e
    exact ho ps (Option.some.inj e)
  · rw [upd_ne z] at e
    exact h b ps e
theorem ex_later {H' : Hp} (n : NoTbl Hs) (e : Ex Hs H) (e' : ExtN H H') : Ex Hs H' := fun b o h => e' _ _ (e _ _ h) fun ps z => n b ps (by rw [← z]; exact h)
theorem page_later {H' : Hp} (n : NoTbl Hs) (e' : ExtN H H') (h : PageIn CC CP Hs H a p) : PageIn CC CP Hs H' a p := by
  obtain ⟨L, hp, A⟩ := h
  refine ⟨L, ⟨exN_i e' hp.ins, exN_l e' hp.hw, exN_l e' hp.hc, hp.hcl, fun i c k h1 h2 => ⟨exN_i e' (hp.hca i c k h1 h2).ins, exN_l e' (hp.hca i c k h1 h2).tps⟩, exN_l e' hp.hq, hp.hql, fun i q k h1 h2 => exN_t e' (hp.hqa i q k h1 h2), exN_l e' hp.hf, hp.hfl, fun i q k h1 h2 => exN_t e' (hp.hfa i q k h1 h2), exN_l e' hp.hp⟩, ex_later n A.ex e', A.hw, A.ht, A.na, A.nl, A.nc, A.nd, A.cd⟩
theorem st_later {H' : Hp} {S : Addr} {st : Kp430.State} (n : NoTbl Hs) (e' : ExtN H H') (h : StIn CC CP CS Hs H S st) : StIn CC CP CS Hs H' S st := by
  obtain ⟨dx, v, h1, h2, h3, h4⟩ := h
  refine ⟨dx, v, exN_i e' h1, h2, ex_later n h3 e', ?_⟩
  cases st with
  | none => exact h4
  | some p =>
    obtain ⟨a, q1, q2, q3⟩ := h4
    exact ⟨a, q1, page_later n e' q2, q3⟩
theorem fresh_later {r S : Addr} {st : Kp430.State} (n : NoTbl Hs) (h : StIn CC CP CS Hs H S st) (hr : FreshN H r) : Hs r = none := by
  obtain ⟨_, _, _, _, e, _⟩ := h
  cases q : Hs r with
  | none => rfl
  | some o =>
    obtain ⟨ps, z⟩ := hr o (e _ _ q)
    exact absurd (by rw [← z]; exact q) (n r ps)
end
end Ps
end

section
set_option maxRecDepth 100000
set_option maxHeartbeats 2000000
namespace Ps
open PySem PySem.Spec PyProof.Rows L2 Evl LamX
open Kp430 (Page Candidate Quota)
section
variable {P : Program} {w : World} {K : PySem.W.Frag} {mg : Str → Option Value} {base : Heap} {CC CP CS : Addr} {σ : L2.St} {H Hs : Hp} {D : Ends} {a : Addr} {L : Lay} {p : Page} {tp tv te to ti : TE} {Q : VK} {Tb : List (Addr × Str)}
/-- a question leaves the page -/
theorem ask_state {n : Nat} {ns : List Nat} {row : List Int} {c : Kp430.Call} (h : AskIs n ns row c) (p : Page) : (Kp430.step (some p) c).1 = some p := by
  cases h <;> rfl
/-- which call three parts are -/
inductive CallIs : Nat → List Nat → List Int → Kp430.Call → Prop
  | create (r : List Nat) : CallIs 0 [] (r.map fun n : Nat => (n : Int)) (.create r)
  | change {n : Nat} {ns r : List Nat} {c : Kp430.Call} (h : ChangeIs n ns r c) : CallIs n ns (r.map fun n : Nat => (n : Int)) c
  | ask {n : Nat} {ns : List Nat} {r : List Int} {c : Kp430.Call} (h : AskIs n ns r c) : CallIs n ns r c
theorem change_num {n : Nat} {ns r : List Nat} {c : Kp430.Call} (h : ChangeIs n ns r c) : 1 ≤ n ∧ n ≤ 10 := by
  cases h <;> decide
theorem ask_num {n : Nat} {ns : List Nat} {r : List Int} {c : Kp430.Call} (h : AskIs n ns r c) : 11 ≤ n := by
  cases h <;> decide
theorem step_none {n : Nat} {ns : List Nat} {r : List Int} {c : Kp430.Call} (h : CallIs n ns r c) (hn : n ≠ 0) : Kp430.step none c = (none, Kp430.single (-11)) := by
  cases h with
  | create r => exact absurd rfl hn
  | change h => cases h <;> rfl
  | ask h => cases h <;> rfl
/-- what follows a call, the tables with it -/
def AfterT (Tb : List (Addr × Str)) (CC CP CS : Addr) (Hs : Hp) (S : Addr) (x : Kp430.State × Kp430.Ans) (Q : VK) : Prop := ∀ H' r, StIn CC CP CS Hs H' S x.1 → Tabs Tb H' → H' r = some (.lst (aL x.2)) → Hs r = none → Q (.ref r) H'
theorem afterS_of {S : Addr} {x : Kp430.State × Kp430.Ans} (e : Ex Hs H) (hT : Tabs Tb H) (k : AfterT Tb CC CP CS Hs S x Q) : AfterS CC CP CS (withT Hs H) S x Q := fun H' r hI hr hn => by
  have hI2 := hI
  obtain ⟨_, _, _, _, ex, _⟩ := hI2
  exact k H' r (st_backT e hI) ((tabs_withT hT).ext ex) hr (withT_none hn)
def spAnswer (Tb : List (Addr × Str)) (CC CP CS : Addr) : Sp := fun vs H Q _ => ∃ Hs S st n ns row ln lr c, vs = [.ref S, nV n, .ref ln, .ref lr] ∧ StIn CC CP CS Hs H S st ∧ Hs ln = some (.lst (ns.map nV)) ∧ src Hs lr = some (.lst (row.map V.int)) ∧ row.length ≤ 12 ∧ CallIs n ns row c ∧ Tabs Tb H ∧ NoTbl Hs ∧ AfterT Tb CC CP CS Hs S (Kp430.step st c) Q
theorem ret_create {S l : Addr} {ns : List Nat} {st : Kp430.State} {E : XK} {tz : TA} {dx : Addr} {v : V} (hI : StIn CC CP CS Hs H S st) (hS : H S = some (.ins CS dx (sF v))) (ho : Ev to σ H (.ref S)) (h : EvA tz σ H [.ref l]) (hl : src Hs l = some (.lst (ns.map nV))) (h12 : ns.length ≤ 12)
    (k : AfterS CC CP CS Hs S (Kp430.step st (.create ns)) D.rt) : tRet (tMeth CS "create" (spCreate CC CP CS) [] E to tz) D σ H :=
  ho H (Ex.refl H) _ fun H1 e1 => ⟨S, dx, sF v, rfl, e1 _ _ hS, sF_no_create, h H1 e1 _ fun H2 e2 => by
    show spCreate CC CP CS (.ref S :: ([.ref l] ++ [])) H2 D.rt E
    exact ⟨Hs, S, l, ns, st, rfl, hI.mono (e1.trans e2), hl, h12, k⟩⟩
abbrev s_Session_answer : Stmt := inClass (topS 117) 2
theorem sc_Session_answer : FnScope ["self", "number", "numbers", "row"] ["self", "number", "numbers", "row"] (defScope s_Session_answer) := ⟨rfl, rfl, rfl, by decide +kernel, rfl, by decide +kernel, by decide +kernel⟩
theorem ok_Session_answer (T : Txt K mg CC CP CS) (F : MFunAt K CS "answer" "Session.answer" s_Session_answer ["self", "number", "numbers", "row"]) (D_Session_create : MethAt P w K mg base 3 CS "create" ["self", "weights"] (spCreate CC CP CS)) (D_change : DefAt P w K mg base 4 "change" ["page", "number", "numbers", "row"] (spM CC CP cChange))
    (D_ask : DefAt P w K mg base 9 "ask" ["page", "number", "numbers", "row"] (spLT Tb (rAsk K CC CP))) : MethAt P w K mg base 10 CS "answer" ["self", "number", "numbers", "row"] (spAnswer Tb CC CP CS) := by
  obtain ⟨f, fd, FF, hm, hb⟩ := F.ex
  refine ⟨f, fd, FF.ok sc_Session_answer (fun vs H Q E h => ?_) (fun cdv A outer s H vs Q E hr h => ⟨_, (pss_cons (ps_if (pt_cmpR op_eq (pv 1) (pe_gi T.CREATE) (nomark _)) (pss_one (ps_ret (pe_mt D_Session_create T.cSession (hr.mono (by decide)) pass0 (pv 0) (pa_cons (pv 3) pa_nil)))) pss_nil)
      (pss_cons (ps_if (pt_cmpR op_isN (fldK (K := K) (pv 0)) pe_non (nomark _)) (pss_one (ps_ret (pe_lst (pa_cons (pe_gi T.NO_PAGE) pa_nil)))) pss_nil)
      (pss_cons (ps_if (pt_cmpR op_le (pv 1) (pe_gi T.LAST_CHANGE) (nomark _)) (pss_one (ps_ret (pe_cd D_change (hr.mono (by decide)) pass0 (pa_cons (fldK (K := K) (pv 0)) (pa_cons (pv 1) (pa_cons (pv 2) (pa_cons (pv 3) pa_nil))))))) pss_nil)
      (pss_one (ps_ret (pe_cd D_ask (hr.mono (by decide)) pass0 (pa_cons (fldK (K := K) (pv 0)) (pa_cons (pv 1) (pa_cons (pv 2) (pa_cons (pv 3) pa_nil)))))))))), ?_⟩), hm, hb⟩
  · obtain ⟨_, _, _, _, _, _, _, _, _, rfl, _⟩ := h
    rfl
  · obtain ⟨Hs, S, st, n, ns, row, ln, lr, c, rfl, hst, hln, hlr, hr12, hc, hTb, hnt, k⟩ := h
    have hst0 := hst
    obtain ⟨dx, v, hS, hn, ex, hv⟩ := hst0
    have hp : ∀ H1, Ex H H1 → ∀ {σ : L2.St}, σ[0]? = some (some (.ref S)) → Ev (tFld K (tVar 0) "page") σ H1 v := fun H1 e σ h0 => ev_fld (ev_var h0) (e _ _ hS) T.cSession T.nS_page sF_page
    by_cases h0 : n = 0
    · subst h0
      cases hc with
      | create r =>
        rw [ints_nats] at hlr
        rw [List.length_map] at hr12
        refine q_yes (et_test (ev_op (ev_var rfl) ev_c (rv_eq rfl))) (by decide) fun H1 e1 => ?_
        exact ret_create (st_withT (hst.mono e1)) (e1 _ _ hS) (ev_var rfl) (ea_cons (ev_var rfl) ea_nil) (withT_src (ex.trans e1) hlr) hr12 (afterS_of (ex.trans e1) (hTb.ext e1) k)
      | change h => exact absurd (change_num h).1 (by decide)
      | ask h => exact absurd (ask_num h) (by decide)
    · refine q_no (et_test (ev_op (ev_var rfl) ev_c (rv_eq rfl))) (decide_eq_false fun q => h0 (by injection q with q; omega)) fun H1 e1 => ?_
      cases st with
      | none =>
        have hv : v = .non := hv
        subst hv
        refine q_yes (et_test (ev_op (hp H1 e1 rfl) ev_c rv_isN)) (by decide) fun H2 e2 => ?_
        rw [step_none hc h0] at k
        exact ret_errS (st_withT (hst.mono (e1.trans e2))) ev_c (afterS_of (ex.trans (e1.trans e2)) (hTb.ext (e1.trans e2)) k)
      | some p =>
        obtain ⟨a, rfl, hpg, wf⟩ := hv
        refine q_no (et_test (ev_op (hp H1 e1 rfl) ev_c rv_isN)) (decide_eq_false fun z => by cases z) fun H2 e2 => ?_
        have e12 := e1.trans e2
        cases hc with
        | create r => exact absurd rfl h0
        | change h =>
          rename_i rr
          obtain ⟨hn1, hn2⟩ := change_num h
          rw [ints_nats] at hlr
          rw [List.length_map] at hr12
          refine q_yes (et_test (ev_op (ev_var rfl) ev_c rv_I0)) (decide_eq_true (by omega)) fun H3 e3 => ?_
          have e13 := e12.trans e3
          have hS3 := e13 _ _ hS
          have kW := afterS_of (ex.trans e13) (hTb.ext e13) k
          have hpW := page_withT (hpg.mono e13)
          have hlnW := withT_sub (ex.trans e13) _ _ hln
          have hlrW := withT_src (ex.trans e13) hlr
          have hnW : withT Hs H3 S = none := by rw [withT_no (noT_i hS3)]; exact hn
          clear k hln hlr hn hpg
          generalize withT Hs H3 = W at *
          have hnn : ∀ {b : Addr} {xs : List V}, W b = some (.lst xs) → upd W S (.ins CS dx (sF (.ref a))) b = some (.lst xs) := fun {b xs} q => by
            rw [upd_ne (fun z => by rw [z, hnW] at q; cases q)]; exact q
          refine ret_spM (Hs := upd W S (.ins CS dx (sF (.ref a)))) (page_with hnW hS3 hpW) wf (ea_cons (hp H3 e13 rfl) (ea_cons (ev_var rfl) (ea_cons (ev_var rfl) (ea_cons (ev_var rfl) ea_nil)))) ⟨n, ns, rr, ln, lr, rfl, hnn hlnW, src_upd hnW hlrW, hr12, h⟩ fun H' r p' hp' hI hr' hrn => ?_
          have hS' : H' S = some (.ins CS dx (sF (.ref a))) := by
            obtain ⟨_, _, A⟩ := hI
            exact A.ex _ _ upd_same
          have hw := wf_step (s := some p) (fun q e => by cases e; exact wf) c
          refine kW H' r ⟨dx, .ref a, hS', hnW, ?_, ?_⟩ hr' ?_
          · obtain ⟨_, _, A⟩ := hI
            exact (Ex.new hnW).trans A.ex
          · rw [hp']
            exact ⟨a, rfl, page_without hnW hS' (fun xs z => by cases z) (fun xs z => by cases z) hI, hw p' hp'⟩
          · have : r ≠ S := fun z => by rw [z, upd_same] at hrn; cases hrn
            rw [upd_ne this] at hrn
            exact hrn
        | ask h =>
          have hn1 := ask_num h
          refine q_no (et_test (ev_op (ev_var rfl) ev_c rv_I0)) (decide_eq_false (by omega)) fun H3 e3 => ?_
          have e13 := e12.trans e3
          have hstep := ask_state h p
          refine ret_LT (ea_cons (hp H3 e13 rfl) (ea_cons (ev_var rfl) (ea_cons (ev_var rfl) (ea_cons (ev_var rfl) ea_nil)))) (hTb.ext e13) (fun H4 e4 => ⟨a, p, n, ns, row, ln, lr, c, rfl, (hpg.mono (e13.trans e4)).at_, wf, (e13.trans e4) _ _ (ex _ _ hln), (e13.trans e4) _ _ (ex _ _ (src_ex _ _ hlr)), hr12, h, rfl⟩) (Ex.refl _) fun r H5 hr5 e5 hT5 h5 => ?_
          refine k H5 r ?_ hT5 h5 (fresh_later hnt (hst.mono e13) hr5)
          rw [hstep]
          exact st_later hnt e5 (hst.mono e13)
end
end Ps
end

section
set_option maxRecDepth 100000
set_option maxHeartbeats 2000000
namespace Ps
open PySem PySem.Spec PyProof.Rows L2 Evl
/-! A dict of the written part, read by an int. -/
def tIxF (d : Addr) (kvs : List (Key × Value)) (to ti : TE) : TE := fun σ H Q => to σ H fun x H1 => ti σ H1 fun y H2 => ∃ k v u, x = .ref d ∧ y = kV k ∧ valueAt kvs k = some u ∧ RelV v u ∧ Q v H2
theorem pe_ixF {X : Cx} {d : Addr} {kvs : List (Key × Value)} {o i : Expr} {to ti : TE} {pos : Pos} (hD : ∀ h : Heap, X.K.In h → h.DictOf (mixKind X.prog X.w) d kvs) (ho : PE X o to) (hi : PE X i ti) (hs : NoSl i := by intro _ _; rfl) : PE X (.Subscript o i pos) (tIxF d kvs to ti) := by
  refine ⟨fun pins s σ H Q I h => ?_⟩
  refine subD_of PySem.F.slot_dict_getitem.lookup hs (thn (ho.run pins s σ H _ I h) fun u s1 ⟨x, H1, I1, rx, q1⟩ => thn (hi.run pins s1 σ H1 _ I1 q1) fun iv s2 ⟨y, H2, I2, ry, k, v, u2, ex, ey, hv, ru, q2⟩ => ?_)
  subst ex ey
  obtain rfl : u = Value.ref d := rx
  have dd := hD s2.heap I2.kIn
  exact ⟨dd.mapOf.typeIs, wpAny_getItem_of (kV_is ry) dd.mapOf hv ⟨v, H2, I2.tok _, ru, q2⟩⟩
/-- how a call is written: how many numbers, whether a row -/
structure FormsAt (P : Program) (w : World) (K : PySem.W.Frag) (mg : Str → Option Value) : Prop where
  ex : ∃ (d : Addr) (kvs : List (Key × Value)), mg "FORMS" = some (.ref d) ∧ (∀ h : Heap, K.In h → h.DictOf (mixKind P w) d kvs) ∧
    ∀ (p : Int) (n k : Nat), PyKp430.shape p = some (n, k) → ∃ a, valueAt kvs (Sum.inl p) = some (.ref a) ∧ ∀ H, SqT K H a [nV n, .bl (k == 1)]
theorem shape_none {p : Int} (h : p < 0 ∨ 27 ≤ p) : PyKp430.shape p = none := by
  unfold PyKp430.shape
  iterate 27 rw [if_neg (by omega)]
theorem shape_small : ∀ i : Fin 27, ((PyKp430.shape ((i.val : Nat) : Int)).all fun x => decide (x.2 ≤ 1)) = true := by decide
theorem shape_range {p : Int} {n k : Nat} (h : PyKp430.shape p = some (n, k)) : 0 ≤ p ∧ p < 27 := by
  by_cases q : p < 0 ∨ 27 ≤ p
  · rw [shape_none q] at h; cases h
  · omega
theorem shape_rows {p : Int} {n k : Nat} (h : PyKp430.shape p = some (n, k)) : k = 0 ∨ k = 1 := by
  have hr := shape_range h
  have := shape_small ⟨p.toNat, by omega⟩
  have e : ((p.toNat : Nat) : Int) = p := by omega
  simp only [e] at this
  rw [h] at this
  have : k ≤ 1 := of_decide_eq_true this
  omega
/-! ### the parts of a call -/
def cNum (c : List (List Int)) : Int := (c.headD []).headD 0
def cNums (c : List (List Int)) : List Int := (c.headD []).tail
def cRow (c : List (List Int)) : List Int := c.tail.headD []
def CallAt (H : Hp) (t : Addr) (c : List (List Int)) : Prop := ∃ ln lr, H t = some (.tup [.int (cNum c), .ref ln, .ref lr]) ∧ H ln = some (.lst ((cNums c).map V.int)) ∧ H lr = some (.lst ((cRow c).map V.int))
theorem CallAt.mono {H H' : Hp} {t : Addr} {c : List (List Int)} (h : CallAt H t c) (e : Ex H H') : CallAt H' t c := by
  obtain ⟨ln, lr, h1, h2, h3⟩ := h
  exact ⟨ln, lr, e _ _ h1, e _ _ h2, e _ _ h3⟩
def CallsAt (H : Hp) (ts : List Addr) (cs : List (List (List Int))) : Prop := ts.length = cs.length ∧ ∀ (i : Nat) (t : Addr) (c : List (List Int)), ts[i]? = some t → cs[i]? = some c → CallAt H t c
theorem CallsAt.mono {H H' : Hp} {ts : List Addr} {cs : List (List (List Int))} (h : CallsAt H ts cs) (e : Ex H H') : CallsAt H' ts cs := ⟨h.1, fun i t c h1 h2 => (h.2 i t c h1 h2).mono e⟩
/-- all but d -/
def hid (d : Addr) (H : Hp) : Hp := fun b => if b = d then none else H b
theorem hid_ne {d b : Addr} {H : Hp} (h : b ≠ d) : hid d H b = H b := if_neg h
theorem hid_ex {d : Addr} {H H' : Hp} (e : Ex H H') : Ex (hid d H) (hid d H') := fun b o h => by
  unfold hid at h ⊢
  split at h
  · cases h
  · rename_i n
    rw [if_neg n]
    exact e b o h
theorem hid_sub {d : Addr} {H : Hp} : Ex (hid d H) H := fun b o h => by
  unfold hid at h
  split at h
  · cases h
  · exact h
theorem hid_upd {d : Addr} {H : Hp} {o : HO} : hid d (upd H d o) = hid d H := by
  funext b
  unfold hid
  split
  · rfl
  · rename_i n
    exact upd_ne n
/-- what is new since H0, all but d -/
def nu (d : Addr) (H0 H : Hp) : Hp := fun b => if H0 b = none then hid d H b else none
theorem nu_ne {d b : Addr} {H0 H : Hp} (h : b ≠ d) (h0 : H0 b = none) : nu d H0 H b = H b := (if_pos h0).trans (hid_ne h)
theorem nu_ex {d : Addr} {H0 H H' : Hp} (e : Ex H H') : Ex (nu d H0 H) (nu d H0 H') := fun b o h => by
  unfold nu at h ⊢
  split at h
  · rename_i n
    rw [if_pos n]
    exact hid_ex e b o h
  · cases h
theorem nu_hid {d : Addr} {H0 H : Hp} : Ex (nu d H0 H) (hid d H) := fun b o h => by
  unfold nu at h
  split at h
  · exact h
  · cases h
theorem nu_new {d b : Addr} {H0 H : Hp} {o : HO} (h : nu d H0 H b = some o) : H0 b = none := by
  unfold nu at h
  split at h
  · assumption
  · cases h
theorem nu_upd {d : Addr} {H0 H : Hp} {o : HO} : nu d H0 (upd H d o) = nu d H0 H := by
  funext b
  unfold nu
  rw [hid_upd]
theorem CallsAt.snoc {H : Hp} {ts : List Addr} {cs : List (List (List Int))} {t : Addr} {c : List (List Int)} (h : CallsAt H ts cs) (hc : CallAt H t c) : CallsAt H (ts ++ [t]) (cs ++ [c]) := by
  refine ⟨by rw [List.length_append, List.length_append, h.1]; rfl, fun i t' c' h1 h2 => ?_⟩
  by_cases e : i < ts.length
  · rw [List.getElem?_append_left e] at h1
    rw [List.getElem?_append_left (by rw [← h.1]; exact e)] at h2
    exact h.2 i t' c' h1 h2
  · rw [List.getElem?_append_right (by omega)] at h1
    rw [List.getElem?_append_right (by rw [← h.1]; omega), ← h.1] at h2
    have e0 : i - ts.length = 0 := by
      have := (List.getElem?_eq_some_iff.mp h1).1
      simp at this; omega
    rw [e0] at h1 h2
    cases h1
    cases h2
    exact hc
/-- one call off the front: its form, its numbers, its row, what is left -/
theorem call_parts {l : List Int} {place f : Nat} {rest : List (List (List Int))} (h : PyFlat.calls PyKp430.shape f (l.drop place) = some rest) (hp : place < l.length) : ∃ (p : Int) (n k : Nat) (c : List (List Int)) (cs : List (List (List Int))) (f' place' : Nat),
    l[place]? = some p ∧ PyKp430.shape p = some (n, k) ∧ rest = c :: cs ∧ cNum c = p ∧ cNums c = (l.drop (place + 1)).take n ∧ PyFlat.calls PyKp430.shape f' (l.drop place') = some cs ∧ place < place' ∧ place' ≤ l.length ∧ place + 1 + n ≤ l.length ∧
    ((k = 0 ∧ cRow c = [] ∧ place' = place + 1 + n) ∨ (k = 1 ∧ ∃ m : Nat, l[place + 1 + n]? = some (m : Int) ∧ place' = place + 1 + n + 1 + m ∧ cRow c = (l.drop (place + 1 + n + 1)).take m)) := by
  have hd : l.drop place = l[place] :: l.drop (place + 1) := List.drop_eq_getElem_cons hp
  rw [hd] at h
  cases f with
  | zero => cases h
  | succ f =>
    have h : (match PyFlat.call PyKp430.shape (l[place] :: l.drop (place + 1)) with
      | none => none
      | some (c, t) => match PyFlat.calls PyKp430.shape f t with
        | none => none
        | some cs => some (c :: cs)) = some rest := h
    cases hc : PyFlat.call PyKp430.shape (l[place] :: l.drop (place + 1)) with
    | none => rw [hc] at h; cases h
    | some ct =>
      obtain ⟨c, t⟩ := ct
      rw [hc] at h
      have h : (match PyFlat.calls PyKp430.shape f t with
        | none => none
        | some cs => some (c :: cs)) = some rest := h
      cases hcs : PyFlat.calls PyKp430.shape f t with
      | none => rw [hcs] at h; cases h
      | some cs =>
        rw [hcs] at h
        have hr : c :: cs = rest := Option.some.inj h
        have hc : (match PyKp430.shape l[place] with
          | none => none
          | some (n, k) => if (l.drop (place + 1)).length < n then none else match PyFlat.rows k ((l.drop (place + 1)).drop n) with
            | none => none
            | some (xs, t) => some ((l[place] :: (l.drop (place + 1)).take n) :: xs, t)) = some (c, t) := hc
        cases hsh : PyKp430.shape l[place] with
        | none => rw [hsh] at hc; cases hc
        | some nk =>
          obtain ⟨n, k⟩ := nk
          rw [hsh] at hc
          have hc : (if (l.drop (place + 1)).length < n then none else match PyFlat.rows k ((l.drop (place + 1)).drop n) with
            | none => none
            | some (xs, t) => some ((l[place] :: (l.drop (place + 1)).take n) :: xs, t)) = some (c, t) := hc
          by_cases hn : (l.drop (place + 1)).length < n
          · rw [if_pos hn] at hc; cases hc
          · rw [if_neg hn] at hc
            rw [List.length_drop] at hn
            rw [List.drop_drop] at hc
            rcases shape_rows hsh with rfl | rfl
            · have hc : some ((l[place] :: (l.drop (place + 1)).take n) :: [], l.drop (place + 1 + n)) = some (c, t) := hc
              have e := Option.some.inj hc
              injection e with e1 e2
              subst e1 e2
              exact ⟨_, n, 0, _, cs, f, place + 1 + n, List.getElem?_eq_getElem hp, hsh, hr.symm, rfl, rfl, hcs, by omega, by omega, by omega, .inl ⟨rfl, rfl, rfl⟩⟩
            · have hc : (match PyFlat.rows 1 (l.drop (place + 1 + n)) with
                | none => none
                | some (xs, t) => some ((l[place] :: (l.drop (place + 1)).take n) :: xs, t)) = some (c, t) := hc
              by_cases hq : place + 1 + n < l.length
              · have hd2 : l.drop (place + 1 + n) = l[place + 1 + n] :: l.drop (place + 1 + n + 1) := List.drop_eq_getElem_cons hq
                rw [hd2] at hc
                have hrows : PyFlat.rows 1 (l[place + 1 + n] :: l.drop (place + 1 + n + 1)) = if 0 ≤ l[place + 1 + n] ∧ l[place + 1 + n].toNat ≤ (l.drop (place + 1 + n + 1)).length then some ([(l.drop (place + 1 + n + 1)).take l[place + 1 + n].toNat], (l.drop (place + 1 + n + 1)).drop l[place + 1 + n].toNat) else none := by
                  show (match PyFlat.row (l[place + 1 + n] :: l.drop (place + 1 + n + 1)) with
                    | none => none
                    | some (x, s) => match PyFlat.rows 0 s with
                      | none => none
                      | some (xs, t) => some (x :: xs, t)) = _
                  by_cases hm : 0 ≤ l[place + 1 + n] ∧ l[place + 1 + n].toNat ≤ (l.drop (place + 1 + n + 1)).length
                  · rw [if_pos hm, show PyFlat.row (l[place + 1 + n] :: l.drop (place + 1 + n + 1)) = some ((l.drop (place + 1 + n + 1)).take l[place + 1 + n].toNat, (l.drop (place + 1 + n + 1)).drop l[place + 1 + n].toNat) from if_pos hm]
                    rfl
                  · rw [if_neg hm, show PyFlat.row (l[place + 1 + n] :: l.drop (place + 1 + n + 1)) = none from if_neg hm]
                rw [hrows] at hc
                by_cases hm : 0 ≤ l[place + 1 + n] ∧ l[place + 1 + n].toNat ≤ (l.drop (place + 1 + n + 1)).length
                · rw [if_pos hm] at hc
                  have e := Option.some.inj hc
                  injection e with e1 e2
                  subst e1
                  rw [List.drop_drop] at e2
                  subst e2
                  rw [List.length_drop] at hm
                  refine ⟨_, n, 1, _, cs, f, place + 1 + n + 1 + l[place + 1 + n].toNat, List.getElem?_eq_getElem hp, hsh, hr.symm, rfl, rfl, hcs, by omega, by omega, by omega, .inr ⟨rfl, l[place + 1 + n].toNat, ?_, rfl, rfl⟩⟩
                  rw [List.getElem?_eq_getElem hq]
                  congr 1
                  omega
                · rw [if_neg hm] at hc; cases hc
              · rw [List.drop_of_length_le (by omega)] at hc
                cases hc
section
variable {P : Program} {w : World} {K : PySem.W.Frag} {mg : Str → Option Value} {base : Heap} {CC CP CS : Addr} {σ : L2.St} {H : Hp} {D : Ends} {to ti : TE}
theorem ev_ixF {d a : Addr} {kvs : List (Key × Value)} {p : Int} (ho : Ev to σ H (.ref d)) (hi : Ev ti σ H (.int p)) (hv : valueAt kvs (Sum.inl p) = some (.ref a)) : Ev (tIxF d kvs to ti) σ H (.ref a) := fun H1 e Q q =>
  ho H1 e _ fun H2 e2 => hi H2 (e.trans e2) _ fun H3 e3 => ⟨Sum.inl p, .ref a, _, rfl, rfl, hv, rfl, q H3 (e2.trans e3)⟩
def spSplit (K : PySem.W.Frag) : Sp := fun vs H Q _ => ∃ a l raw, vs = [.ref a] ∧ SqL K H a (l.map V.int) ∧ l.length ≤ 1080 ∧ PyFlat.calls PyKp430.shape l.length l = some raw ∧ ∀ d ts H', H d = none → Ex H H' → H' d = some (.lst (ts.map V.ref)) → CallsAt (nu d H H') ts raw → Q (.ref d) H'
theorem map_drop_take (l : List Int) (i n : Nat) : ((l.map V.int).drop i).take n = ((l.drop i).take n).map V.int := by
  rw [List.map_take, List.map_drop]
abbrev s_split_calls : Stmt := topS 113
theorem sc_split_calls : FnScope ["calls", "split", "place", "number", "form", "row_place", "numbers", "row"] ["calls"] (defScope s_split_calls) := ⟨rfl, rfl, rfl, by decide +kernel, rfl, by decide +kernel, by decide +kernel⟩
theorem ok_split_calls (T : Txt K mg CC CP CS) (FA : FormsAt P w K mg) (F : FunAt K mg "split_calls" s_split_calls ["calls"]) : DefAt P w K mg base 1 "split_calls" ["calls"] (spSplit K) := by
  obtain ⟨f, fd, FF, hm, hb⟩ := F.ex
  obtain ⟨d0, kvs, hr0, hD0, hform⟩ := FA.ex
  refine ⟨f, fd, FF.ok sc_split_calls (fun vs H Q E h => ?_) (fun cdv A outer s H vs Q E hr h => ⟨_, (pss_cons (ps_set (i := 1) sc_split_calls.nd rfl (Or.inl rfl) (pe_lst pa_nil))
      (pss_cons (ps_set (i := 2) sc_split_calls.nd rfl (Or.inl rfl) pe_int)
      (pss_cons (ps_while PassesOwn.never (pt_cmpR op_lt (pv 2) (pe_callB (lenK (K := K)) (by rfl) T.len (by decide +kernel) (pa_cons (pv 0) pa_nil)) (nomark _))
        (pss_cons (ps_set (i := 3) sc_split_calls.nd rfl (Or.inl rfl) (pe_ix (ixL (K := K)) (pv 0) (pv 2) (fun _ _ => rfl)))
      (pss_cons (ps_set (i := 4) sc_split_calls.nd rfl (Or.inl rfl) (pe_ixF hD0 (pe_gr hr0) (pv 3)))
      (pss_cons (ps_set (i := 5) sc_split_calls.nd rfl (Or.inl rfl) (pe_op op_add (pe_op op_add (pv 2) pe_int) (pe_ix (ixT (K := K)) (pv 4) pe_int (fun _ _ => rfl))))
      (pss_cons (ps_set (i := 6) sc_split_calls.nd rfl (Or.inl rfl) (pe_slice (slL (K := K)) (pv 0) (po_some (pe_op op_add (pv 2) pe_int)) (po_some (pv 5))))
      (pss_cons (ps_set (i := 7) sc_split_calls.nd rfl (Or.inl rfl) (pe_lst pa_nil))
      (pss_cons (ps_set (i := 2) sc_split_calls.nd rfl (Or.inl rfl) (pv 5))
      (pss_cons (ps_if (pt_val (pe_ix (ixT (K := K)) (pv 4) pe_int (fun _ _ => rfl))) (pss_cons (ps_set (i := 2) sc_split_calls.nd rfl (Or.inl rfl) (pe_op op_add (pe_op op_add (pv 5) pe_int) (pe_ix (ixL (K := K)) (pv 0) (pv 5) (fun _ _ => rfl))))
      (pss_one (ps_set (i := 7) sc_split_calls.nd rfl (Or.inl rfl) (pe_slice (slL (K := K)) (pv 0) (po_some (pe_op op_add (pv 5) pe_int)) (po_some (pv 2)))))) pss_nil)
      (pss_one (ps_expr (bmK (K := K) PySem.F.plainAttrs_list PySem.F.slot_list_append PySem.F.type_list_append mt_append (pv 1) (pa_cons (pe_tup (pa_cons (pv 3) (pa_cons (pv 6) (pa_cons (pv 7) pa_nil)))) pa_nil))))))))))))
      (pss_one (ps_ret (pv 1)))))), ?_⟩), hm, FF.kp, hb⟩
  · obtain ⟨_, _, _, rfl, _⟩ := h
    rfl
  · obtain ⟨a, l, raw, rfl, hS, h1080, hraw, k⟩ := h
    refine q_asgL (el_lst ea_nil (by show 0 ≤ 100000; decide)) fun d H0 hd e0 h0 => ?_
    refine q_asg ev_c fun H1 e1 => ?_
    have hv : ∀ H1, Ex H H1 → ∀ {σ : L2.St}, σ[0]? = some (some (.ref a)) → EvS K (tVar 0) σ H1 (l.map V.int) := fun H1 e σ h0 => es_of (ev_var h0) (ex_l e hS)
    refine q_while (fun m σ' H' => ∃ place ts done rest f v3 v4 v5 v6 v7, m = l.length - place ∧ place ≤ l.length ∧ σ' = [some (.ref a), some (.ref d), some (nV place), v3, v4, v5, v6, v7] ∧ Ex H H' ∧ H' d = some (.lst (ts.map V.ref)) ∧ CallsAt (nu d H H') ts done ∧ raw = done ++ rest ∧
        PyFlat.calls PyKp430.shape f (l.drop place) = some rest ∧ ts.length ≤ place) l.length ⟨0, [], [], raw, l.length, none, none, none, none, none, rfl, Nat.zero_le _, rfl, e0.trans e1, e1 _ _ h0, ⟨rfl, fun i t c h => by simp at h⟩, rfl, hraw, Nat.zero_le _⟩ ?_
    rintro m σ' H' ⟨place, ts, done, rest, f, v3, v4, v5, v6, v7, rfl, hpl, rfl, eH, hDl, hCA, hdone, hrest, htl⟩
    refine ⟨decide (place < l.length), et_test (ev_is (ev_op (ev_var rfl) (ev_lenS (hv H' eH (by rfl))) rv_I0) (by rw [List.length_map]; exact nv_lt)), fun hlt H2 e2 => ?_, fun hge H2 e2 => ?_⟩
    · have hlt : place < l.length := of_decide_eq_true hlt
      obtain ⟨p, n, kk, c, cs, f', place', hp, hsh, hr1, hcn, hcns, hcs, hpp, hpl', hn2, hcase⟩ := call_parts hrest hlt
      obtain ⟨ta, hta, htup⟩ := hform p n kk hsh
      have E2 := eH.trans e2
      generalize hN : (fun (σ2 : L2.St) (H2' : Hp) => ∃ v3 v4 v5 v6 v7 ts', σ2 = [some (.ref a), some (.ref d), some (nV place'), v3, v4, v5, v6, v7] ∧ Ex H H2' ∧ H2' d = some (.lst (ts'.map V.ref)) ∧ CallsAt (nu d H H2') ts' (done ++ [c]) ∧ ts'.length ≤ place') = N
      refine ⟨N, ?_, ?_⟩
      · subst hN
        rintro σ2 H2' ⟨v3, v4, v5, v6, v7, ts', rfl, q1, q2, q3, q4⟩
        exact ⟨l.length - place', by omega, place', ts', done ++ [c], cs, f', v3, v4, v5, v6, v7, rfl, hpl', rfl, q1, q2, q3, by rw [hdone, hr1, List.append_assoc]; rfl, hcs, q4⟩
      · refine q_asg (ev_ixS (hv H2 E2 (by rfl)) (ev_var rfl) (atI_nat (by rw [List.getElem?_map, hp]; rfl))) fun H3 e3 => ?_
        refine q_asg (ev_ixF ev_c (ev_var rfl) hta) fun H4 e4 => ?_
        refine q_asg (v := nV (place + 1 + n)) (ev_is (ev_op (ev_op (ev_var rfl) ev_c rv_I0) (ev_ixT (ev_var rfl) (htup H4) ev_c (atI_nat (j := 0) rfl)) rv_I0) (by congr 1)) fun H5 e5 => ?_
        have E5 := ((E2.trans e3).trans e4).trans e5
        refine q_asgL (EvL.is (es_sl (hv H5 E5 (by rfl)) (eo_some (ev_is (ev_op (ev_var rfl) ev_c rv_I0) (show V.int _ = nV (place + 1) by congr 1))) (eo_some (ev_var rfl))) (ys := (cNums c).map V.int) ?_) fun ln H6 hln e6 h6 => ?_
        · rw [cut_fromto, map_drop_take, hcns]
          congr 2
          omega
        refine q_asgL (el_lst ea_nil (by show 0 ≤ 100000; decide)) fun lr H7 hlr e7 h7 => ?_
        refine q_asg (ev_var rfl) fun H8 e8 => ?_
        have E8 := ((E5.trans e6).trans e7).trans e8
        have e25 := (e3.trans e4).trans e5
        have e28 := ((e25.trans e6).trans e7).trans e8
        have d5 := (e2.trans e25) _ _ hDl
        have nln : ln ≠ d := fun z => by rw [z, d5] at hln; cases hln
        have nlr : lr ≠ d := fun z => by rw [z, e6 _ _ d5] at hlr; cases hlr
        have fin : ∀ (D' : Ends) (H9 : Hp) (lr' : Addr) (u4 u5 : Option V), D'.nx = N → Ex H8 H9 → lr' ≠ d → H lr' = none → H9 lr' = some (.lst ((cRow c).map V.int)) → tDrop (tBM K "list" rAppend (tVar 1) (tCons (tTup (tCons (tVar 3) (tCons (tVar 6) (tCons (tVar 7) tNil)))) tNil)) D'
            [some (.ref a), some (.ref d), some (nV place'), some (.int p), u4, u5, some (.ref ln), some (.ref lr')] H9 := by
          intro D' H9 lr' u4 u5 hD' e9 nlr' nlr0 h9
          have hDl9 := (e2.trans (e28.trans e9)) _ _ hDl
          refine s_appU hDl9 (ev_var rfl) (eu_tup (ea_cons (ev_var rfl) (ea_cons (ev_var rfl) (ea_cons (ev_var rfl) ea_nil))) (by show 3 ≤ 100000; decide)) (by rw [List.length_map]; omega) fun t HA ht eA hA => ?_
          rw [hD', ← hN]
          have ntd : t ≠ d := fun z => by rw [z, hDl9] at ht; cases ht
          refine ⟨_, _, _, _, _, ts ++ [t], rfl, Ex.mut ((E8.trans e9).trans eA) hd, by rw [upd_same, List.map_append]; rfl, ?_, by rw [List.length_append]; show ts.length + 1 ≤ place'; omega⟩
          rw [nu_upd]
          refine (hCA.mono (nu_ex ((e2.trans (e28.trans e9)).trans eA))).snoc ⟨ln, lr', ?_, ?_, ?_⟩
          · rw [nu_ne ntd (fresh_back ((E8.trans e9)) ht), hA, hcn]
          · rw [nu_ne nln (fresh_back E5 hln)]; exact ((e7.trans e8).trans (e9.trans eA)) _ _ h6
          · rw [nu_ne nlr' nlr0]; exact eA _ _ h9
        have tB1 : Ev (tOp (rIxT K) (tVar 4) (tC (.int 1))) [some (.ref a), some (.ref d), some (nV (place + 1 + n)), some (.int p), some (.ref ta), some (nV (place + 1 + n)), some (.ref ln), some (.ref lr)] H8 (.bl (kk == 1)) := ev_ixT (ev_var rfl) (htup H8) ev_c (atI_nat (j := 1) rfl)
        rcases hcase with ⟨rfl, hrow, hpe⟩ | ⟨rfl, m, hm, hpe, hrow⟩
        · refine q_when (et_B tB1) (fun hb => absurd hb (by decide)) fun _ H9 e9 => ?_
          subst hpe
          exact fin _ H9 lr _ _ rfl e9 nlr (fresh_back (E5.trans e6) hlr) (by rw [hrow]; exact (e8.trans e9) _ _ h7)
        · refine q_when (et_B tB1) (fun _ H9 e9 => ?_) fun hb => absurd hb (by decide)
          have E9 := E8.trans e9
          refine q_asg (v := nV place') (ev_is (ev_op (ev_op (ev_var rfl) ev_c rv_I0) (ev_ixS (hv H9 E9 (by rfl)) (ev_var rfl) (atI_nat (by rw [List.getElem?_map, hm]; rfl))) rv_I0) (by rw [hpe]; congr 1)) fun H10 e10 => ?_
          refine s_asgL (EvL.is (es_sl (hv H10 (E9.trans e10) (by rfl)) (eo_some (ev_is (ev_op (ev_var rfl) ev_c rv_I0) (show V.int _ = nV (place + 1 + n + 1) by congr 1))) (eo_some (ev_var rfl))) (ys := (cRow c).map V.int) ?_) fun lq H11 hlq e11 h11 => ?_
          · rw [cut_fromto, map_drop_take, hrow]
            congr 2
            omega
          have nlq : lq ≠ d := fun z => by rw [z, (e2.trans (e28.trans (e9.trans e10))) _ _ hDl] at hlq; cases hlq
          exact fin _ H11 lq _ _ rfl (e9.trans (e10.trans e11)) nlq (fresh_back ((E9.trans e10)) hlq) h11
    · have hge : ¬ place < l.length := of_decide_eq_false hge
      have hrest0 : rest = [] := by
        rw [List.drop_of_length_le (by omega)] at hrest
        cases f <;> (cases hrest; rfl)
      rw [hrest0, List.append_nil] at hdone
      refine s_ret (ev_var rfl) fun H3 e3 => ?_
      refine k d ts H3 hd (eH.trans (e2.trans e3)) ((e2.trans e3) _ _ hDl) ?_
      rw [hdone]
      exact hCA.mono (nu_ex (e2.trans e3))
end
end Ps
end

section
set_option maxRecDepth 100000
set_option maxHeartbeats 2000000
namespace Ps
open PyFlat PyKp430
/-! What a list of calls is, call by call. -/
/-- a call has the parts that its form says -/
def CWf (c : List (List Int)) : Prop := ∃ p xs rows, c = (p :: xs) :: rows ∧ shape p = some (xs.length, rows.length)
theorem rows_len : ∀ {k : Nat} {l t : List Int} {xs : List (List Int)}, PyFlat.rows k l = some (xs, t) → xs.length = k
  | 0, l, t, xs, h => by cases h; rfl
  | k + 1, l, t, xs, h => by
    unfold PyFlat.rows at h
    split at h
    · cases h
    · split at h
      · cases h
      · rename_i x s _ ys u e
        cases h
        rw [List.length_cons, rows_len e]
theorem call_wf {l t : List Int} {c : List (List Int)} (h : PyFlat.call shape l = some (c, t)) : CWf c := by
  cases l with
  | nil => cases h
  | cons p r =>
    have h : (match shape p with
      | none => none
      | some (n, k) => if r.length < n then none else match PyFlat.rows k (r.drop n) with
        | none => none
        | some (xs, t) => some ((p :: r.take n) :: xs, t)) = some (c, t) := h
    cases hs : shape p with
    | none => rw [hs] at h; cases h
    | some nk =>
      obtain ⟨n, k⟩ := nk
      rw [hs] at h
      have h : (if r.length < n then none else match PyFlat.rows k (r.drop n) with
        | none => none
        | some (xs, t) => some ((p :: r.take n) :: xs, t)) = some (c, t) := h
      split at h
      · cases h
      · rename_i hn
        cases hr : PyFlat.rows k (r.drop n) with
        | none => rw [hr] at h; cases h
        | some xt =>
          obtain ⟨xs, u⟩ := xt
          rw [hr] at h
          cases h
          exact ⟨p, r.take n, xs, rfl, by rw [hs, rows_len hr, List.length_take, Nat.min_eq_left (by omega)]⟩
theorem calls_wf : ∀ {f : Nat} {l : List Int} {raw : List (List (List Int))}, PyFlat.calls shape f l = some raw → ∀ c ∈ raw, CWf c
  | _, [], raw, h => by
    cases h' : raw with
    | nil => exact fun _ h => nomatch h
    | cons a b => unfold PyFlat.calls at h; rw [h'] at h; cases h
  | 0, a :: l, raw, h => by cases h
  | f + 1, a :: l, raw, h => by
    unfold PyFlat.calls at h
    cases hc : PyFlat.call shape (a :: l) with
    | none => rw [hc] at h; cases h
    | some ct =>
      obtain ⟨c, t⟩ := ct
      rw [hc] at h
      have h : (match PyFlat.calls shape f t with
        | none => none
        | some cs => some (c :: cs)) = some raw := h
      cases hcs : PyFlat.calls shape f t with
      | none => rw [hcs] at h; cases h
      | some cs =>
        rw [hcs] at h
        cases h
        intro d hd
        rcases List.mem_cons.mp hd with rfl | hd
        · exact call_wf hc
        · exact calls_wf hcs d hd
theorem nat_cast {z : Int} (h : Kp430Neutral.natural z = true) : ((z.toNat : Nat) : Int) = z := by
  unfold Kp430Neutral.natural at h
  rw [Bool.and_eq_true, decide_eq_true_eq] at h
  omega
theorem nats_cast {l : List Int} (h : l.all Kp430Neutral.natural = true) : (l.map Int.toNat).map (fun n : Nat => (n : Int)) = l := by
  rw [List.map_map]
  refine (List.map_congr_left fun z hz => ?_).trans (List.map_id l)
  exact nat_cast (List.all_eq_true.mp h z hz)
theorem castC {row row' : List Int} {n : Nat} {ns : List Nat} {c : Kp430.Call} (e : row' = row) (h : CallIs n ns row' c) : CallIs n ns row c := by subst e; exact h
def Decoded (c : List (List Int)) : Prop := ∃ n ns row cc, cNum c = ((n : Nat) : Int) ∧ cNums c = ns.map (fun n : Nat => (n : Int)) ∧ cRow c = row ∧ row.length ≤ 12 ∧ CallIs n ns row cc ∧ Kp430Neutral.callOf (whole c) = some cc
theorem dec0  (r : List Int) (h : Kp430Neutral.asked1 (whole [[0], r]) = true) : Decoded [[0], r] := by
  have h : (r.all Kp430Neutral.natural && decide (r.length ≤ 12)) = true := h
  simp only [Bool.and_eq_true] at h
  obtain ⟨g8, g9⟩ := h
  exact ⟨0, [], r, _, rfl, rfl, rfl, of_decide_eq_true g9, (castC (nats_cast g8) <| CallIs.create (r.map Int.toNat)), rfl⟩
theorem dec1 (x0 : Int) (x1 : Int) (x2 : Int) (x3 : Int) (r : List Int) (h : Kp430Neutral.asked1 (whole [[1, x0, x1, x2, x3], r]) = true) : Decoded [[1, x0, x1, x2, x3], r] := by
  have h : (Kp430Neutral.natural x0 && (Kp430Neutral.natural x1 && (Kp430Neutral.natural x2 && (Kp430Neutral.natural x3 && (r.all Kp430Neutral.natural && decide (r.length ≤ 12)))))) = true := h
  simp only [Bool.and_eq_true] at h
  obtain ⟨g0, g1, g2, g3, g8, g9⟩ := h
  exact ⟨1, [x0.toNat, x1.toNat, x2.toNat, x3.toNat], r, _, rfl, by show [x0, x1, x2, x3] = [((x0.toNat : Nat) : Int), ((x1.toNat : Nat) : Int), ((x2.toNat : Nat) : Int), ((x3.toNat : Nat) : Int)]; rw [nat_cast g0, nat_cast g1, nat_cast g2, nat_cast g3], rfl, of_decide_eq_true g9, (castC (nats_cast g8) <| CallIs.change (.c1 x0.toNat x1.toNat x2.toNat x3.toNat (r.map Int.toNat))), rfl⟩
theorem dec2 (x0 : Int) (x1 : Int) (h : Kp430Neutral.asked1 (whole [[2, x0, x1]]) = true) : Decoded [[2, x0, x1]] := by
  have h : (Kp430Neutral.natural x0 && Kp430Neutral.natural x1) = true := h
  simp only [Bool.and_eq_true] at h
  obtain ⟨g0, g1⟩ := h
  exact ⟨2, [x0.toNat, x1.toNat], [], _, rfl, by show [x0, x1] = [((x0.toNat : Nat) : Int), ((x1.toNat : Nat) : Int)]; rw [nat_cast g0, nat_cast g1], rfl, by decide, (CallIs.change (r := []) (.c2 x0.toNat x1.toNat [])), rfl⟩
theorem dec3 (x0 : Int) (x1 : Int) (x2 : Int) (h : Kp430Neutral.asked1 (whole [[3, x0, x1, x2]]) = true) : Decoded [[3, x0, x1, x2]] := by
  have h : (Kp430Neutral.natural x0 && (Kp430Neutral.natural x1 && Kp430Neutral.natural x2)) = true := h
  simp only [Bool.and_eq_true] at h
  obtain ⟨g0, g1, g2⟩ := h
  exact ⟨3, [x0.toNat, x1.toNat, x2.toNat], [], _, rfl, by show [x0, x1, x2] = [((x0.toNat : Nat) : Int), ((x1.toNat : Nat) : Int), ((x2.toNat : Nat) : Int)]; rw [nat_cast g0, nat_cast g1, nat_cast g2], rfl, by decide, (CallIs.change (r := []) (.c3 x0.toNat x1.toNat x2.toNat [])), rfl⟩
theorem dec4 (x0 : Int) (x1 : Int) (h : Kp430Neutral.asked1 (whole [[4, x0, x1]]) = true) : Decoded [[4, x0, x1]] := by
  have h : (Kp430Neutral.natural x0 && Kp430Neutral.natural x1) = true := h
  simp only [Bool.and_eq_true] at h
  obtain ⟨g0, g1⟩ := h
  exact ⟨4, [x0.toNat, x1.toNat], [], _, rfl, by show [x0, x1] = [((x0.toNat : Nat) : Int), ((x1.toNat : Nat) : Int)]; rw [nat_cast g0, nat_cast g1], rfl, by decide, (CallIs.change (r := []) (.c4 x0.toNat x1.toNat [])), rfl⟩
theorem dec5 (x0 : Int) (x1 : Int) (h : Kp430Neutral.asked1 (whole [[5, x0, x1]]) = true) : Decoded [[5, x0, x1]] := by
  have h : (Kp430Neutral.natural x0 && Kp430Neutral.natural x1) = true := h
  simp only [Bool.and_eq_true] at h
  obtain ⟨g0, g1⟩ := h
  exact ⟨5, [x0.toNat, x1.toNat], [], _, rfl, by show [x0, x1] = [((x0.toNat : Nat) : Int), ((x1.toNat : Nat) : Int)]; rw [nat_cast g0, nat_cast g1], rfl, by decide, (CallIs.change (r := []) (.c5 x0.toNat x1.toNat [])), rfl⟩
theorem dec6 (x0 : Int) (h : Kp430Neutral.asked1 (whole [[6, x0]]) = true) : Decoded [[6, x0]] := by
  have h : Kp430Neutral.natural x0 = true := h
  have g0 := h
  exact ⟨6, [x0.toNat], [], _, rfl, by show [x0] = [((x0.toNat : Nat) : Int)]; rw [nat_cast g0], rfl, by decide, (CallIs.change (r := []) (.c6 x0.toNat [])), rfl⟩
theorem dec7 (x0 : Int) (x1 : Int) (h : Kp430Neutral.asked1 (whole [[7, x0, x1]]) = true) : Decoded [[7, x0, x1]] := by
  have h : (Kp430Neutral.natural x0 && Kp430Neutral.natural x1) = true := h
  simp only [Bool.and_eq_true] at h
  obtain ⟨g0, g1⟩ := h
  exact ⟨7, [x0.toNat, x1.toNat], [], _, rfl, by show [x0, x1] = [((x0.toNat : Nat) : Int), ((x1.toNat : Nat) : Int)]; rw [nat_cast g0, nat_cast g1], rfl, by decide, (CallIs.change (r := []) (.c7 x0.toNat x1.toNat [])), rfl⟩
theorem dec8 (x0 : Int) (x1 : Int) (h : Kp430Neutral.asked1 (whole [[8, x0, x1]]) = true) : Decoded [[8, x0, x1]] := by
  have h : (Kp430Neutral.natural x0 && Kp430Neutral.natural x1) = true := h
  simp only [Bool.and_eq_true] at h
  obtain ⟨g0, g1⟩ := h
  exact ⟨8, [x0.toNat, x1.toNat], [], _, rfl, by show [x0, x1] = [((x0.toNat : Nat) : Int), ((x1.toNat : Nat) : Int)]; rw [nat_cast g0, nat_cast g1], rfl, by decide, (CallIs.change (r := []) (.c8 x0.toNat x1.toNat [])), rfl⟩
theorem dec9 (x0 : Int) (x1 : Int) (h : Kp430Neutral.asked1 (whole [[9, x0, x1]]) = true) : Decoded [[9, x0, x1]] := by
  have h : (Kp430Neutral.natural x0 && Kp430Neutral.natural x1) = true := h
  simp only [Bool.and_eq_true] at h
  obtain ⟨g0, g1⟩ := h
  exact ⟨9, [x0.toNat, x1.toNat], [], _, rfl, by show [x0, x1] = [((x0.toNat : Nat) : Int), ((x1.toNat : Nat) : Int)]; rw [nat_cast g0, nat_cast g1], rfl, by decide, (CallIs.change (r := []) (.c9 x0.toNat x1.toNat [])), rfl⟩
theorem dec10 (x0 : Int) (h : Kp430Neutral.asked1 (whole [[10, x0]]) = true) : Decoded [[10, x0]] := by
  have h : Kp430Neutral.natural x0 = true := h
  have g0 := h
  exact ⟨10, [x0.toNat], [], _, rfl, by show [x0] = [((x0.toNat : Nat) : Int)]; rw [nat_cast g0], rfl, by decide, (CallIs.change (r := []) (.c10 x0.toNat [])), rfl⟩
theorem dec11  (r : List Int) (h : Kp430Neutral.asked1 (whole [[11], r]) = true) : Decoded [[11], r] := by
  have h : (r.all Kp430Neutral.natural && decide (r.length ≤ 12)) = true := h
  simp only [Bool.and_eq_true] at h
  obtain ⟨g8, g9⟩ := h
  exact ⟨11, [], r, _, rfl, rfl, rfl, of_decide_eq_true g9, (castC (nats_cast g8) <| CallIs.ask (.c11  (r.map Int.toNat))), rfl⟩
theorem dec12  (r : List Int) (h : Kp430Neutral.asked1 (whole [[12], r]) = true) : Decoded [[12], r] := by
  have h : (r.all Kp430Neutral.natural && decide (r.length ≤ 12)) = true := h
  simp only [Bool.and_eq_true] at h
  obtain ⟨g8, g9⟩ := h
  exact ⟨12, [], r, _, rfl, rfl, rfl, of_decide_eq_true g9, (castC (nats_cast g8) <| CallIs.ask (.c12  (r.map Int.toNat))), rfl⟩
theorem dec13 (x0 : Int) (r : List Int) (h : Kp430Neutral.asked1 (whole [[13, x0], r]) = true) : Decoded [[13, x0], r] := by
  have h : (Kp430Neutral.natural x0 && (r.all Kp430Neutral.natural && decide (r.length ≤ 12))) = true := h
  simp only [Bool.and_eq_true] at h
  obtain ⟨g0, g8, g9⟩ := h
  exact ⟨13, [x0.toNat], r, _, rfl, by show [x0] = [((x0.toNat : Nat) : Int)]; rw [nat_cast g0], rfl, of_decide_eq_true g9, (castC (nats_cast g8) <| CallIs.ask (.c13 x0.toNat (r.map Int.toNat))), rfl⟩
theorem dec14  (h : Kp430Neutral.asked1 (whole [[14]]) = true) : Decoded [[14]] := by
  exact ⟨14, [], [], _, rfl, rfl, rfl, by decide, .ask (.c14 []), rfl⟩
theorem dec15  (r : List Int) (h : Kp430Neutral.asked1 (whole [[15], r]) = true) : Decoded [[15], r] := by
  have h : (r.all Kp430Neutral.natural && decide (r.length ≤ 12)) = true := h
  simp only [Bool.and_eq_true] at h
  obtain ⟨g8, g9⟩ := h
  exact ⟨15, [], r, _, rfl, rfl, rfl, of_decide_eq_true g9, (castC (nats_cast g8) <| CallIs.ask (.c15  (r.map Int.toNat))), rfl⟩
theorem dec16 (x0 : Int) (h : Kp430Neutral.asked1 (whole [[16, x0]]) = true) : Decoded [[16, x0]] := by
  have h : Kp430Neutral.natural x0 = true := h
  have g0 := h
  exact ⟨16, [x0.toNat], [], _, rfl, by show [x0] = [((x0.toNat : Nat) : Int)]; rw [nat_cast g0], rfl, by decide, (CallIs.ask (.c16 x0.toNat [])), rfl⟩
theorem dec17  (h : Kp430Neutral.asked1 (whole [[17]]) = true) : Decoded [[17]] := by
  exact ⟨17, [], [], _, rfl, rfl, rfl, by decide, .ask (.c17 []), rfl⟩
theorem dec18  (r : List Int) (h : Kp430Neutral.asked1 (whole [[18], r]) = true) : Decoded [[18], r] := by
  have h : (r.all Kp430Neutral.whole && decide (r.length ≤ 12)) = true := h
  simp only [Bool.and_eq_true] at h
  obtain ⟨g8, g9⟩ := h
  exact ⟨18, [], r, _, rfl, rfl, rfl, of_decide_eq_true g9, (CallIs.ask (.c18  r)), rfl⟩
theorem dec19 (x0 : Int) (x1 : Int) (r : List Int) (h : Kp430Neutral.asked1 (whole [[19, x0, x1], r]) = true) : Decoded [[19, x0, x1], r] := by
  have h : (Kp430Neutral.natural x0 && (Kp430Neutral.natural x1 && (r.all Kp430Neutral.whole && decide (r.length ≤ 12)))) = true := h
  simp only [Bool.and_eq_true] at h
  obtain ⟨g0, g1, g8, g9⟩ := h
  exact ⟨19, [x0.toNat, x1.toNat], r, _, rfl, by show [x0, x1] = [((x0.toNat : Nat) : Int), ((x1.toNat : Nat) : Int)]; rw [nat_cast g0, nat_cast g1], rfl, of_decide_eq_true g9, (CallIs.ask (.c19 x0.toNat x1.toNat r)), rfl⟩
theorem dec20  (r : List Int) (h : Kp430Neutral.asked1 (whole [[20], r]) = true) : Decoded [[20], r] := by
  have h : (r.all Kp430Neutral.whole && decide (r.length ≤ 12)) = true := h
  simp only [Bool.and_eq_true] at h
  obtain ⟨g8, g9⟩ := h
  exact ⟨20, [], r, _, rfl, rfl, rfl, of_decide_eq_true g9, (CallIs.ask (.c20  r)), rfl⟩
theorem dec21  (r : List Int) (h : Kp430Neutral.asked1 (whole [[21], r]) = true) : Decoded [[21], r] := by
  have h : (r.all Kp430Neutral.natural && decide (r.length ≤ 12)) = true := h
  simp only [Bool.and_eq_true] at h
  obtain ⟨g8, g9⟩ := h
  exact ⟨21, [], r, _, rfl, rfl, rfl, of_decide_eq_true g9, (castC (nats_cast g8) <| CallIs.ask (.c21  (r.map Int.toNat))), rfl⟩
theorem dec22 (x0 : Int) (h : Kp430Neutral.asked1 (whole [[22, x0]]) = true) : Decoded [[22, x0]] := by
  have h : Kp430Neutral.natural x0 = true := h
  have g0 := h
  exact ⟨22, [x0.toNat], [], _, rfl, by show [x0] = [((x0.toNat : Nat) : Int)]; rw [nat_cast g0], rfl, by decide, (CallIs.ask (.c22 x0.toNat [])), rfl⟩
theorem dec23 (x0 : Int) (h : Kp430Neutral.asked1 (whole [[23, x0]]) = true) : Decoded [[23, x0]] := by
  have h : Kp430Neutral.natural x0 = true := h
  have g0 := h
  exact ⟨23, [x0.toNat], [], _, rfl, by show [x0] = [((x0.toNat : Nat) : Int)]; rw [nat_cast g0], rfl, by decide, (CallIs.ask (.c23 x0.toNat [])), rfl⟩
theorem dec24 (x0 : Int) (h : Kp430Neutral.asked1 (whole [[24, x0]]) = true) : Decoded [[24, x0]] := by
  have h : Kp430Neutral.natural x0 = true := h
  have g0 := h
  exact ⟨24, [x0.toNat], [], _, rfl, by show [x0] = [((x0.toNat : Nat) : Int)]; rw [nat_cast g0], rfl, by decide, (CallIs.ask (.c24 x0.toNat [])), rfl⟩
theorem dec25 (x0 : Int) (h : Kp430Neutral.asked1 (whole [[25, x0]]) = true) : Decoded [[25, x0]] := by
  have h : Kp430Neutral.natural x0 = true := h
  have g0 := h
  exact ⟨25, [x0.toNat], [], _, rfl, by show [x0] = [((x0.toNat : Nat) : Int)]; rw [nat_cast g0], rfl, by decide, (CallIs.ask (.c25 x0.toNat [])), rfl⟩
theorem dec26  (h : Kp430Neutral.asked1 (whole [[26]]) = true) : Decoded [[26]] := by
  exact ⟨26, [], [], _, rfl, rfl, rfl, by decide, .ask (.c26 []), rfl⟩
theorem decode {c : List (List Int)} (hw : CWf c) (h : Kp430Neutral.asked1 (whole c) = true) : Decoded c := by
  obtain ⟨p, xs, rows, rfl, hs⟩ := hw
  have hr := shape_range hs
  have hp : p = 0 ∨ p = 1 ∨ p = 2 ∨ p = 3 ∨ p = 4 ∨ p = 5 ∨ p = 6 ∨ p = 7 ∨ p = 8 ∨ p = 9 ∨ p = 10 ∨ p = 11 ∨ p = 12 ∨ p = 13 ∨ p = 14 ∨ p = 15 ∨ p = 16 ∨ p = 17 ∨ p = 18 ∨ p = 19 ∨ p = 20 ∨ p = 21 ∨ p = 22 ∨ p = 23 ∨ p = 24 ∨ p = 25 ∨ p = 26 := by omega
  rcases hp with rfl | rfl | rfl | rfl | rfl | rfl | rfl | rfl | rfl | rfl | rfl | rfl | rfl | rfl | rfl | rfl | rfl | rfl | rfl | rfl | rfl | rfl | rfl | rfl | rfl | rfl | rfl
  · have hs : some ((0 : Nat), (1 : Nat)) = some (xs.length, rows.length) := hs
    injection hs with hs
    injection hs with h1 h2
    match xs, rows, h1, h2 with
    | [], [r], _, _ => exact dec0 r h
  · have hs : some ((4 : Nat), (1 : Nat)) = some (xs.length, rows.length) := hs
    injection hs with hs
    injection hs with h1 h2
    match xs, rows, h1, h2 with
    | [x0, x1, x2, x3], [r], _, _ => exact dec1 x0 x1 x2 x3 r h
  · have hs : some ((2 : Nat), (0 : Nat)) = some (xs.length, rows.length) := hs
    injection hs with hs
    injection hs with h1 h2
    match xs, rows, h1, h2 with
    | [x0, x1], [], _, _ => exact dec2 x0 x1 h
  · have hs : some ((3 : Nat), (0 : Nat)) = some (xs.length, rows.length) := hs
    injection hs with hs
    injection hs with h1 h2
    match xs, rows, h1, h2 with
    | [x0, x1, x2], [], _, _ => exact dec3 x0 x1 x2 h
  · have hs : some ((2 : Nat), (0 : Nat)) = some (xs.length, rows.length) := hs
    injection hs with hs
    injection hs with h1 h2
    match xs, rows, h1, h2 with
    | [x0, x1], [], _, _ => exact dec4 x0 x1 h
  · have hs : some ((2 : Nat), (0 : Nat)) = some (xs.length, rows.length) := hs
    injection hs with hs
    injection hs with h1 h2
    match xs, rows, h1, h2 with
    | [x0, x1], [], _, _ => exact dec5 x0 x1 h
  · have hs : some ((1 : Nat), (0 : Nat)) = some (xs.length, rows.length) := hs
    injection hs with hs
    injection hs with h1 h2
    match xs, rows, h1, h2 with
    | [x0], [], _, _ => exact dec6 x0 h
  · have hs : some ((2 : Nat), (0 : Nat)) = some (xs.length, rows.length) := hs
    injection hs with hs
    injection hs with h1 h2
    match xs, rows, h1, h2 with
    | [x0, x1], [], _, _ => exact dec7 x0 x1 h
  · have hs : some ((2 : Nat), (0 : Nat)) = some (xs.length, rows.length) := hs
    injection hs with hs
    injection hs with h1 h2
    match xs, rows, h1, h2 with
    | [x0, x1], [], _, _ => exact dec8 x0 x1 h
  · have hs : some ((2 : Nat), (0 : Nat)) = some (xs.length, rows.length) := hs
    injection hs with hs
    injection hs with h1 h2
    match xs, rows, h1, h2 with
    | [x0, x1], [], _, _ => exact dec9 x0 x1 h
  · have hs : some ((1 : Nat), (0 : Nat)) = some (xs.length, rows.length) := hs
    injection hs with hs
    injection hs with h1 h2
    match xs, rows, h1, h2 with
    | [x0], [], _, _ => exact dec10 x0 h
  · have hs : some ((0 : Nat), (1 : Nat)) = some (xs.length, rows.length) := hs
    injection hs with hs
    injection hs with h1 h2
    match xs, rows, h1, h2 with
    | [], [r], _, _ => exact dec11 r h
  · have hs : some ((0 : Nat), (1 : Nat)) = some (xs.length, rows.length) := hs
    injection hs with hs
    injection hs with h1 h2
    match xs, rows, h1, h2 with
    | [], [r], _, _ => exact dec12 r h
  · have hs : some ((1 : Nat), (1 : Nat)) = some (xs.length, rows.length) := hs
    injection hs with hs
    injection hs with h1 h2
    match xs, rows, h1, h2 with
    | [x0], [r], _, _ => exact dec13 x0 r h
  · have hs : some ((0 : Nat), (0 : Nat)) = some (xs.length, rows.length) := hs
    injection hs with hs
    injection hs with h1 h2
    match xs, rows, h1, h2 with
    | [], [], _, _ => exact dec14  h
  · have hs : some ((0 : Nat), (1 : Nat)) = some (xs.length, rows.length) := hs
    injection hs with hs
    injection hs with h1 h2
    match xs, rows, h1, h2 with
    | [], [r], _, _ => exact dec15 r h
  · have hs : some ((1 : Nat), (0 : Nat)) = some (xs.length, rows.length) := hs
    injection hs with hs
    injection hs with h1 h2
    match xs, rows, h1, h2 with
    | [x0], [], _, _ => exact dec16 x0 h
  · have hs : some ((0 : Nat), (0 : Nat)) = some (xs.length, rows.length) := hs
    injection hs with hs
    injection hs with h1 h2
    match xs, rows, h1, h2 with
    | [], [], _, _ => exact dec17  h
  · have hs : some ((0 : Nat), (1 : Nat)) = some (xs.length, rows.length) := hs
    injection hs with hs
    injection hs with h1 h2
    match xs, rows, h1, h2 with
    | [], [r], _, _ => exact dec18 r h
  · have hs : some ((2 : Nat), (1 : Nat)) = some (xs.length, rows.length) := hs
    injection hs with hs
    injection hs with h1 h2
    match xs, rows, h1, h2 with
    | [x0, x1], [r], _, _ => exact dec19 x0 x1 r h
  · have hs : some ((0 : Nat), (1 : Nat)) = some (xs.length, rows.length) := hs
    injection hs with hs
    injection hs with h1 h2
    match xs, rows, h1, h2 with
    | [], [r], _, _ => exact dec20 r h
  · have hs : some ((0 : Nat), (1 : Nat)) = some (xs.length, rows.length) := hs
    injection hs with hs
    injection hs with h1 h2
    match xs, rows, h1, h2 with
    | [], [r], _, _ => exact dec21 r h
  · have hs : some ((1 : Nat), (0 : Nat)) = some (xs.length, rows.length) := hs
    injection hs with hs
    injection hs with h1 h2
    match xs, rows, h1, h2 with
    | [x0], [], _, _ => exact dec22 x0 h
  · have hs : some ((1 : Nat), (0 : Nat)) = some (xs.length, rows.length) := hs
    injection hs with hs
    injection hs with h1 h2
    match xs, rows, h1, h2 with
    | [x0], [], _, _ => exact dec23 x0 h
  · have hs : some ((1 : Nat), (0 : Nat)) = some (xs.length, rows.length) := hs
    injection hs with hs
    injection hs with h1 h2
    match xs, rows, h1, h2 with
    | [x0], [], _, _ => exact dec24 x0 h
  · have hs : some ((1 : Nat), (0 : Nat)) = some (xs.length, rows.length) := hs
    injection hs with hs
    injection hs with h1 h2
    match xs, rows, h1, h2 with
    | [x0], [], _, _ => exact dec25 x0 h
  · have hs : some ((0 : Nat), (0 : Nat)) = some (xs.length, rows.length) := hs
    injection hs with hs
    injection hs with h1 h2
    match xs, rows, h1, h2 with
    | [], [], _, _ => exact dec26  h
end Ps
end

section
set_option maxRecDepth 100000
set_option maxHeartbeats 2000000
namespace Ps
open PySem PySem.Spec PyProof.Rows L2 Evl LamX
open Kp430 (Page Candidate Quota)
section
variable {P : Program} {w : World} {K : PySem.W.Frag} {mg : Str → Option Value} {base : Heap} {CC CP CS : Addr} {σ : L2.St} {H Hs : Hp} {D : Ends} {a : Addr} {L : Lay} {p : Page} {tp tv te to ti : TE} {Q : VK} {Tb : List (Addr × Str)}
/-! ### what is told stands apart from the page -/
theorem PageL.hide {t : Addr} (h : PageL CC CP H a L p) (ha : a ≠ t) (hw : L.aw ≠ t) (hl : ∀ b ∈ [L.ac, L.aq, L.af, L.ap], b ≠ t) (hc : ∀ c ∈ L.cs, c.at_ ≠ t) (ht : ∀ (i : Nat) (c : CL) (k : Candidate), L.cs[i]? = some c → p.candidates[i]? = some k → c.tp ≠ t)
    (hq : ∀ xs, H t ≠ some (.tup xs)) : PageL CC CP (hid t H) a L p := by
  have nt : ∀ {b : Addr} {xs : List V}, H b = some (.tup xs) → hid t H b = some (.tup xs) := fun {b xs} e => by
    rw [hid_ne (fun z => by rw [z] at e; exact hq _ e)]; exact e
  refine ⟨by rw [hid_ne ha]; exact h.ins, by rw [hid_ne hw]; exact h.hw, by rw [hid_ne (hl _ (by simp))]; exact h.hc, h.hcl, fun i c k h1 h2 => ?_, by rw [hid_ne (hl _ (by simp))]; exact h.hq, h.hql, fun i q k h1 h2 => nt (h.hqa i q k h1 h2),
    by rw [hid_ne (hl _ (by simp))]; exact h.hf, h.hfl, fun i q k h1 h2 => nt (h.hfa i q k h1 h2), by rw [hid_ne (hl _ (by simp))]; exact h.hp⟩
  have q := h.hca i c k h1 h2
  exact ⟨by rw [hid_ne (hc c (List.mem_of_getElem? h1))]; exact q.ins, by rw [hid_ne (ht i c k h1 h2)]; exact q.tps⟩
theorem page_tell {t : Addr} {ys : List V} (hn : Hs t = none) (ht : H t = some (.lst ys)) (h : PageIn CC CP Hs (hid t H) a p) : PageIn CC CP (upd Hs t (.lst ys)) H a p := by
  obtain ⟨L, hp, A⟩ := h
  have ne : ∀ {b : Addr} {o : HO}, hid t H b = some o → b ≠ t := fun {b o} e z => by
    rw [z] at e
    unfold hid at e
    rw [if_pos rfl] at e
    cases e
  refine ⟨L, hp.mono hid_sub, fun b o hb => ?_, src_upd hn A.hw, fun i c k h1 h2 => src_upd hn (A.ht i c k h1 h2), ?_, fun b hb => ?_, fun c hc => ?_, A.nd, A.cd⟩
  · by_cases e : b = t
    · rw [e, upd_same] at hb
      cases hb
      rw [e]; exact ht
    · rw [upd_ne e] at hb
      exact hid_sub _ _ (A.ex _ _ hb)
  · rw [upd_ne (ne hp.ins)]; exact A.na
  · have : ∃ xs, hid t H b = some (.lst xs) := by
      simp only [List.mem_cons, List.not_mem_nil, or_false] at hb
      rcases hb with rfl | rfl | rfl | rfl
      · exact ⟨_, hp.hc⟩
      · exact ⟨_, hp.hq⟩
      · exact ⟨_, hp.hf⟩
      · exact ⟨_, hp.hp⟩
    obtain ⟨xs, hx⟩ := this
    rw [upd_ne (ne hx)]
    exact A.nl b hb
  · obtain ⟨i, hi, rfl⟩ := List.getElem_of_mem hc
    have hi2 : i < p.candidates.length := by rw [← hp.hcl]; exact hi
    rw [upd_ne (ne (hp.hca i _ _ (List.getElem?_eq_getElem hi) (List.getElem?_eq_getElem hi2)).ins)]
    exact A.nc _ hc
theorem ne_upd {t b : Addr} {o : HO} (h : upd Hs t o b = none) : b ≠ t := fun z => by rw [z, upd_same] at h; cases h
theorem un_upd {t b : Addr} {o : HO} (h : upd Hs t o b = none) : Hs b = none := by rw [upd_ne (ne_upd h)] at h; exact h
theorem ne_src {t b : Addr} {ys : List V} {o : HO} (hm : ∀ u x y, Hs u ≠ some (.tup [x, y, .ref t])) (h : src (upd Hs t (.lst ys)) b = some o) : b ≠ t := fun z => by
  rw [z] at h
  obtain ⟨u, x, y, e⟩ := src_mark h
  by_cases e2 : u = t
  · rw [e2, upd_same] at e; cases e
  · rw [upd_ne e2] at e; exact hm _ _ _ e
theorem page_untell {t : Addr} {ys : List V} {H' : Hp} (hn : Hs t = none) (hm : ∀ u x y, Hs u ≠ some (.tup [x, y, .ref t])) (h : PageIn CC CP (upd Hs t (.lst ys)) H' a p) : PageIn CC CP Hs (hid t H') a p := by
  obtain ⟨L, hp, A⟩ := h
  have hw := ne_src hm A.hw
  have htp := fun i c k h1 h2 => ne_src hm (A.ht i c k h1 h2)
  have hl := A.ex _ _ upd_same
  refine ⟨L, hp.hide (ne_upd A.na) hw (fun b hb => ne_upd (A.nl b hb)) (fun c hc => ne_upd (A.nc c hc)) htp (fun xs z => by rw [hl] at z; cases z), fun b o hb => ?_, ?_, fun i c k h1 h2 => ?_, un_upd A.na, fun b hb => un_upd (A.nl b hb), fun c hc => un_upd (A.nc c hc), A.nd, A.cd⟩
  · have : b ≠ t := fun z => by rw [z, hn] at hb; cases hb
    rw [hid_ne this]
    exact A.ex _ _ (by rw [upd_ne this]; exact hb)
  · exact src_back (fun x y z => by cases z) hw A.hw
  · exact src_back (fun x y z => by cases z) (htp i c k h1 h2) (A.ht i c k h1 h2)
theorem st_tell {t S : Addr} {ys : List V} {st : Kp430.State} (hn : Hs t = none) (ht : H t = some (.lst ys)) (h : StIn CC CP CS Hs (hid t H) S st) : StIn CC CP CS (upd Hs t (.lst ys)) H S st := by
  obtain ⟨dx, v, hS, hSn, ex, hv⟩ := h
  have hne : S ≠ t := fun z => by
    rw [z] at hS
    unfold hid at hS
    rw [if_pos rfl] at hS
    cases hS
  refine ⟨dx, v, hid_sub _ _ hS, by rw [upd_ne hne]; exact hSn, fun b o hb => ?_, ?_⟩
  · by_cases e : b = t
    · rw [e, upd_same] at hb
      cases hb
      rw [e]; exact ht
    · rw [upd_ne e] at hb
      exact hid_sub _ _ (ex _ _ hb)
  · cases st with
    | none => exact hv
    | some p =>
      obtain ⟨a, q1, q2, q3⟩ := hv
      exact ⟨a, q1, page_tell hn ht q2, q3⟩
theorem st_untell {t S : Addr} {ys : List V} {H' : Hp} {st : Kp430.State} (hn : Hs t = none) (hm : ∀ u x y, Hs u ≠ some (.tup [x, y, .ref t])) (h : StIn CC CP CS (upd Hs t (.lst ys)) H' S st) : StIn CC CP CS Hs (hid t H') S st := by
  obtain ⟨dx, v, hS, hSn, ex, hv⟩ := h
  have hne := ne_upd hSn
  refine ⟨dx, v, by rw [hid_ne hne]; exact hS, un_upd hSn, fun b o hb => ?_, ?_⟩
  · have : b ≠ t := fun z => by rw [z, hn] at hb; cases hb
    rw [hid_ne this]
    exact ex _ _ (by rw [upd_ne this]; exact hb)
  · cases st with
    | none => exact hv
    | some p =>
      obtain ⟨a, q1, q2, q3⟩ := hv
      exact ⟨a, q1, page_untell hn hm q2, q3⟩
/-! ### the calls alone -/
def OfCalls (d : Addr) (ts : List Addr) (H : Hp) (b : Addr) : Prop := b = d ∨ b ∈ ts ∨ ∃ t ∈ ts, ∃ x y z, H t = some (.tup [x, y, z]) ∧ (y = .ref b ∨ z = .ref b)
open Classical in
noncomputable def callH (d : Addr) (ts : List Addr) (H : Hp) : Hp := fun b => if OfCalls d ts H b then H b else none
theorem callH_of {d b : Addr} {ts : List Addr} (h : OfCalls d ts H b) : callH d ts H b = H b := if_pos h
theorem callH_mem {d b : Addr} {ts : List Addr} {o : HO} (h : callH d ts H b = some o) : OfCalls d ts H b := by
  unfold callH at h
  split at h
  · assumption
  · cases h
theorem callH_ex {d : Addr} {ts : List Addr} : Ex (callH d ts H) H := fun b o h => by rw [← callH_of (callH_mem h)]; exact h
section
variable {H0 H2 : Hp} {d : Addr} {ts : List Addr} {cs : List (List (List Int))}
theorem calls_at {t : Addr} (h : CallsAt (nu d H0 H2) ts cs) (ht : t ∈ ts) : ∃ c, CallAt (nu d H0 H2) t c := by
  obtain ⟨i, hi, rfl⟩ := List.getElem_of_mem ht
  have hi2 : i < cs.length := by rw [← h.1]; exact hi
  exact ⟨_, h.2 i _ _ (List.getElem?_eq_getElem hi) (List.getElem?_eq_getElem hi2)⟩
theorem nu_sub : Ex (nu d H0 H2) H2 := fun b o h => hid_sub _ _ (nu_hid _ _ h)
/-- what stood before the calls were taken apart is none of them -/
theorem not_calls {b : Addr} {o : HO} (h : CallsAt (nu d H0 H2) ts cs) (hd : H0 d = none) (hb : H0 b = some o) : ¬ OfCalls d ts H2 b := by
  rintro (rfl | ht | ⟨t, ht, x, y, z, e, hyz⟩)
  · rw [hd] at hb; cases hb
  · obtain ⟨c, ln, lr, q1, q2, q3⟩ := calls_at h ht
    have := nu_new q1
    rw [hb] at this; cases this
  · obtain ⟨c, ln, lr, q1, q2, q3⟩ := calls_at h ht
    have e1 := nu_sub _ _ q1
    rw [e] at e1
    cases e1
    rcases hyz with q | q
    · cases q
      have := nu_new q2
      rw [hb] at this; cases this
    · cases q
      have := nu_new q3
      rw [hb] at this; cases this
theorem old_none {b : Addr} {o : HO} (h : CallsAt (nu d H0 H2) ts cs) (hd : H0 d = none) (hb : H0 b = some o) : callH d ts H2 b = none := if_neg (not_calls h hd hb)
theorem calls_alone (h : CallsAt (nu d H0 H2) ts cs) : CallsAt (callH d ts H2) ts cs := by
  refine ⟨h.1, fun i t c h1 h2 => ?_⟩
  obtain ⟨ln, lr, q1, q2, q3⟩ := h.2 i t c h1 h2
  have ht : t ∈ ts := List.mem_of_getElem? h1
  have e1 := nu_sub _ _ q1
  refine ⟨ln, lr, ?_, ?_, ?_⟩
  · rw [callH_of (.inr (.inl ht))]; exact e1
  · rw [callH_of (.inr (.inr ⟨t, ht, _, _, _, e1, .inl rfl⟩))]; exact nu_sub _ _ q2
  · rw [callH_of (.inr (.inr ⟨t, ht, _, _, _, e1, .inr rfl⟩))]; exact nu_sub _ _ q3
theorem no_mark {b : Addr} {o : HO} (h : CallsAt (nu d H0 H2) ts cs) (hd : H0 d = none) (hb : H0 b = some o) {xs : List V} (hdl : H2 d = some (.lst xs)) : ∀ u x y, callH d ts H2 u ≠ some (.tup [x, y, .ref b]) := by
  intro u x y e
  have hu := callH_ex _ _ e
  rcases callH_mem e with rfl | ht | ⟨t, ht, x', y', z', e2, hyz⟩
  · rw [hdl] at hu; cases hu
  · exact not_calls h hd hb (.inr (.inr ⟨u, ht, _, _, _, hu, .inr rfl⟩))
  · obtain ⟨c, ln, lr, q1, q2, q3⟩ := calls_at h ht
    have e1 := nu_sub _ _ q1
    rw [e2] at e1
    cases e1
    rcases hyz with q | q
    · cases q
      rw [nu_sub _ _ q2] at hu; cases hu
    · cases q
      rw [nu_sub _ _ q3] at hu; cases hu
end
/-! ### what is told -/
theorem q_appZ {tz : TS} {ta : TE} {l : Addr} {xs : List V} {v : V} (hl : H l = some (.lst xs)) (ha : Ev ta σ H (.ref l)) (h : Ev te σ H v) (hz : xs.length < sizeLine) (k : ∀ H1, Ex H H1 → tz D σ (upd H1 l (.lst (xs ++ [v])))) : tSeq (tDrop (tBM K "list" rAppend ta (tCons te tNil))) tz D σ H :=
  ha H (Ex.refl H) _ fun H1 e1 => ⟨Or.inl ⟨rfl, xs, sq_of (e1 l _ hl)⟩, h H1 e1 _ fun H2 e2 => ⟨l, xs, v, rfl, rfl, e2 l _ (e1 l _ hl), hz, k H2 (e1.trans e2)⟩⟩
theorem s_extZ {ta : TE} {l b : Addr} {xs zs : List V} (hl : H l = some (.lst xs)) (hb : H b = some (.lst zs)) (ha : Ev ta σ H (.ref l)) (h : Ev te σ H (.ref b)) (hz : xs.length + zs.length ≤ sizeLine) (k : ∀ H1, Ex H H1 → D.nx σ (upd H1 l (.lst (xs ++ zs)))) : tDrop (tBM K "list" rExtend ta (tCons te tNil)) D σ H :=
  ha H (Ex.refl H) _ fun H1 e1 => ⟨Or.inl ⟨rfl, xs, sq_of (e1 l _ hl)⟩, h H1 e1 _ fun H2 e2 => ⟨l, b, xs, zs, rfl, rfl, e2 l _ (e1 l _ hl), (e1.trans e2) _ _ hb, hz, k H2 (e1.trans e2)⟩⟩
/-- i = Session() -/
theorem q_newSession {i : Nat} {tz : TS} (k : ∀ S dx H1, H S = none → Ex H H1 → H1 S = some (.ins CS dx (sF .non)) → tz D (σ.set i (some (.ref S))) H1) : tSeq (tAsg (tMake CS (spSInit CS) [] E0 tNil) (gName i)) tz D σ H := fun x dx nx nd ne =>
  ⟨x, dx, rfl, upd_same, fun H' h' b' => ⟨rfl, k x dx H' nx (fun b o q => b' b o (by rw [upd_ne (ne_of_none q nx), upd_ne (ne_of_none q nd)]; exact q) (ne_of_none q nx)) h'⟩⟩
/-- i = session.answer(..) -/
theorem q_answer {i : Nat} {tz : TS} {ta : TA} {S : Addr} {n : Nat} {ns : List Nat} {row : List Int} {ln lr : Addr} {st : Kp430.State} {c : Kp430.Call} (hI : StIn CC CP CS Hs H S st) (ho : Ev to σ H (.ref S)) (h : EvA ta σ H [nV n, .ref ln, .ref lr]) (hn : Hs ln = some (.lst (ns.map nV))) (hr : src Hs lr = some (.lst (row.map V.int)))
    (h12 : row.length ≤ 12) (hc : CallIs n ns row c) (hTb : Tabs Tb H) (hnt : NoTbl Hs) (k : ∀ H' r, StIn CC CP CS Hs H' S (Kp430.step st c).1 → Tabs Tb H' → H' r = some (.lst (aL (Kp430.step st c).2)) → Hs r = none → tz D (σ.set i (some (.ref r))) H') : tSeq (tAsg (tMeth CS "answer" (spAnswer Tb CC CP CS) [] E0 to ta) (gName i)) tz D σ H :=
  ho H (Ex.refl H) _ fun H1 e1 => by
    obtain ⟨dx, v, hS, _⟩ := hI.mono e1
    refine ⟨S, dx, sF v, rfl, hS, sF_no_answer, h H1 e1 _ fun H2 e2 => ?_⟩
    show spAnswer Tb CC CP CS (.ref S :: ([nV n, .ref ln, .ref lr] ++ [])) H2 _ E0
    exact ⟨Hs, S, st, n, ns, row, ln, lr, c, rfl, hI.mono (e1.trans e2), hn, hr, h12, hc, hTb.ext (e1.trans e2), hnt, fun H' r q1 q0 q2 q3 => k H' r q1 q0 q2 q3⟩
theorem play_step {st : Kp430.State} {craw : List (List Int)} {c : Kp430.Call} (h : Kp430Neutral.callOf (PyKp430.whole craw) = some c) : Kp430Neutral.step st (PyKp430.whole craw) = ((Kp430.step st c).1, (Kp430.step st c).2.num :: (Kp430.step st c).2.nums) := by
  unfold Kp430Neutral.step
  rw [h]
def spAns (Tb : List (Addr × Str)) (K : PySem.W.Frag) : Sp := fun vs H Q _ => ∃ (a : Addr) (ns : List Int), vs = [.ref a] ∧ Tabs Tb H ∧ SqL K H a (ns.map V.int) ∧ PyKp430.answers_asked ns = true ∧ ns.length ≤ 1080 ∧ ∀ (H' : Hp) (p : Addr), H' p = some (.lst ((PyKp430.answers ns).map V.int)) → Q (.ref p) H'
/-- what is known of calls that may be handed in -/
theorem asked_parts {ns : List Int} (h : PyKp430.answers_asked ns = true) : ∃ raw, PyFlat.calls PyKp430.shape ns.length ns = some raw ∧ (∀ c ∈ raw, Decoded c) ∧ PyKp430.answers ns = PyFlat.told (PyFlat.played Kp430Neutral.step Kp430Neutral.start (raw.map PyKp430.whole)) ∧ (PyKp430.answers ns).length ≤ 10000000 := by
  unfold PyKp430.answers_asked at h
  cases hc : PyFlat.calls PyKp430.shape ns.length ns with
  | none => rw [hc] at h; cases h
  | some raw =>
    rw [hc] at h
    simp only [Bool.and_eq_true] at h
    obtain ⟨⟨⟨⟨h1, h2⟩, h3⟩, h4⟩, h5⟩ := h
    unfold Kp430Neutral.asked at h4
    simp only [Bool.and_eq_true] at h4
    obtain ⟨_, _, h4⟩ := h4
    refine ⟨raw, rfl, fun c hm => decode (calls_wf hc c hm) (List.all_eq_true.mp h4 _ (List.mem_map.mpr ⟨c, hm, rfl⟩)), ?_, of_decide_eq_true h5⟩
    unfold PyKp430.answers PyKp430.calls
    rw [hc]
/-- for .. in split_calls(calls) -/
theorem s_forSplit {ta : TA} {g : TG} {tu : TS} {ns : List Int} {raw : List (List (List Int))} (h : EvA ta σ H [.ref a]) (hS : SqL K H a (ns.map V.int)) (h1080 : ns.length ≤ 1080) (hraw : PyFlat.calls PyKp430.shape ns.length ns = some raw)
    (k : ∀ d ts H3 H4, Ex H H3 → H3 d = none → Ex H3 H4 → H4 d = some (.lst (ts.map V.ref)) → CallsAt (nu d H3 H4) ts raw → ∃ Pv : Nat → L2.St → Hp → Prop, Pv 0 σ H4 ∧ (∀ i σ H, i ≤ (ts.map V.ref).length → Pv i σ H → SqL K H d (ts.map V.ref)) ∧
      (∀ i x σ H, (ts.map V.ref)[i]? = some x → Pv i σ H → g x σ H fun σ2 H2 => tu { D with nx := Pv (i + 1), ct := Pv (i + 1), bk := D.nx } σ2 H2) ∧ (∀ σ H, Pv (ts.map V.ref).length σ H → D.nx σ H)) : tFor (iList K (tCall (spSplit K) [] E0 ta)) g tu D σ H :=
  h H (Ex.refl H) _ fun H3 e3 => ⟨a, ns, raw, rfl, ex_l e3 hS, h1080, hraw, fun d ts H4 hd e4 h4 hC => by
    obtain ⟨Pv, p1, p2, p3, p4⟩ := k d ts H3 H4 e3 hd e4 h4 hC
    exact ⟨d, rfl, ⟨_, sq_of h4⟩, for_list (xs := ts.map V.ref) Pv p1 p2 p3 p4⟩⟩
theorem q_forSplit {ta : TA} {g : TG} {tu tz : TS} {ns : List Int} {raw : List (List (List Int))} (h : EvA ta σ H [.ref a]) (hS : SqL K H a (ns.map V.int)) (h1080 : ns.length ≤ 1080) (hraw : PyFlat.calls PyKp430.shape ns.length ns = some raw)
    (k : ∀ d ts H3 H4, Ex H H3 → H3 d = none → Ex H3 H4 → H4 d = some (.lst (ts.map V.ref)) → CallsAt (nu d H3 H4) ts raw → ∃ Pv : Nat → L2.St → Hp → Prop, Pv 0 σ H4 ∧ (∀ i σ H, i ≤ (ts.map V.ref).length → Pv i σ H → SqL K H d (ts.map V.ref)) ∧
      (∀ i x σ H, (ts.map V.ref)[i]? = some x → Pv i σ H → g x σ H fun σ2 H2 => tu { D with nx := Pv (i + 1), ct := Pv (i + 1), bk := tz D } σ2 H2) ∧ (∀ σ H, Pv (ts.map V.ref).length σ H → tz D σ H)) : tSeq (tFor (iList K (tCall (spSplit K) [] E0 ta)) g tu) tz D σ H :=
  s_forSplit (D := { D with nx := tz D }) h hS h1080 hraw k
abbrev s_answers : Stmt := topS 118
theorem sc_answers : FnScope ["calls", "session", "told", "number", "numbers", "row", "answered"] ["calls"] (defScope s_answers) := ⟨rfl, rfl, rfl, by decide +kernel, rfl, by decide +kernel, by decide +kernel⟩
theorem run_answers {f : Addr} {fd : FuncData} (T : Txt K mg CC CP CS) (FF : Fun K "answers" "answers" s_answers f fd) (D_Session : MakeAt P w K mg base 1 CS ["self"] (spSInit CS)) (D_split_calls : DefAt P w K mg base 1 "split_calls" ["calls"] (spSplit K)) (D_Session_answer : MethAt P w K mg base 10 CS "answer" ["self", "number", "numbers", "row"] (spAnswer Tb CC CP CS)) :
    FnOk P w K mg base CX0 12 f fd ["calls"] (spAns Tb K) := by
  refine FF.ok sc_answers (fun vs H Q E h => ?_) (fun cdv A outer s H vs Q E hr h => ⟨_, (pss_cons (ps_set (i := 1) sc_answers.nd rfl (Or.inl rfl) (pe_mk0 D_Session T.gSession (hr.mono (by decide)) pass0))
      (pss_cons (ps_set (i := 2) sc_answers.nd rfl (Or.inl rfl) (pe_lst pa_nil))
      (pss_cons (ps_for PassesOwn.never rfl (wList (K := K) (pe_cd D_split_calls (hr.mono (by decide)) pass0 (pa_cons (pv 0) pa_nil))) (gTupK (K := K) (n := 3) (pgs_cons (pg_name (i := 3) sc_answers.nd rfl (Or.inl rfl)) (pgs_cons (pg_name (i := 4) sc_answers.nd rfl (Or.inl rfl)) (pgs_cons (pg_name (i := 5) sc_answers.nd rfl (Or.inl rfl)) pgs_nil))))
        (pss_cons (ps_set (i := 6) sc_answers.nd rfl (Or.inl rfl) (pe_mt D_Session_answer T.cSession (hr.mono (by decide)) pass0 (pv 1) (pa_cons (pv 3) (pa_cons (pv 4) (pa_cons (pv 5) pa_nil)))))
      (pss_cons (ps_expr (bmK (K := K) PySem.F.plainAttrs_list PySem.F.slot_list_append PySem.F.type_list_append mt_append (pv 2) (pa_cons (pe_callB (lenK (K := K)) (by rfl) T.len (by decide +kernel) (pa_cons (pv 6) pa_nil)) pa_nil)))
      (pss_one (ps_expr (bmK (K := K) PySem.F.plainAttrs_list PySem.F.slot_list_extend PySem.F.type_list_extend mt_extend (pv 2) (pa_cons (pv 6) pa_nil)))))))
      (pss_one (ps_ret (pv 2)))))), ?_⟩)
  · obtain ⟨_, _, rfl, _⟩ := h
    rfl
  · obtain ⟨a, ns, rfl, hTb, hS, hask, h1080, k⟩ := h
    obtain ⟨raw, hraw, hdec, hans, hlen⟩ := asked_parts hask
    refine q_newSession fun S dx H1 hS0 e1 hS1 => ?_
    refine q_asgL (el_lst ea_nil (by show 0 ≤ 100000; decide)) fun tl H2 htl e2 h2 => ?_
    have hS2 := e2 _ _ hS1
    have nSt : S ≠ tl := fun z => by rw [z, htl] at hS1; cases hS1
    refine q_forSplit (ea_cons (ev_var rfl) ea_nil) (ex_l (e1.trans e2) hS) h1080 hraw fun d ts H3 H4 e3 hd e4 h4 hC => ?_
    have htl3 := e3 _ _ h2
    have hS3 := e3 _ _ hS2
    have cn := old_none hC hd htl3
    have cm := no_mark hC hd htl3 h4
    have cS := old_none hC hd hS3
    have cA := calls_alone hC
    have cd : callH d ts H4 d = some (.lst (ts.map V.ref)) := (callH_of (.inl rfl)).trans h4
    have cx : Ex (callH d ts H4) (hid tl H4) := fun b o hb => by
      have : b ≠ tl := fun z => by rw [z, cn] at hb; cases hb
      rw [hid_ne this]; exact callH_ex _ _ hb
    have cT : NoTbl (callH d ts H4) := fun b ps e => by
      have hb := callH_ex _ _ e
      rcases callH_mem e with rfl | ht | ⟨t, ht, x, y, z, e2, hyz⟩
      · rw [h4] at hb; cases hb
      · obtain ⟨c, ln, lr, q1, q2, q3⟩ := calls_at hC ht
        rw [nu_sub _ _ q1] at hb; cases hb
      · obtain ⟨c, ln, lr, q1, q2, q3⟩ := calls_at hC ht
        have e1 := nu_sub _ _ q1
        rw [e2] at e1
        cases e1
        rcases hyz with q | q
        · cases q
          rw [nu_sub _ _ q2] at hb; cases hb
        · cases q
          rw [nu_sub _ _ q3] at hb; cases hb
    have hT4 : Tabs Tb H4 := hTb.ext ((e1.trans e2).trans (e3.trans e4))
    generalize hHs : callH d ts H4 = Hs at cT cn cm cS cA cd cx
    refine ⟨fun i σ' H' => ∃ st out v3 v4 v5 v6, σ' = [some (.ref a), some (.ref S), some (.ref tl), v3, v4, v5, v6] ∧ StIn CC CP CS Hs (hid tl H') S st ∧ Tabs Tb H' ∧ H' tl = some (.lst (out.map V.int)) ∧
      out ++ PyFlat.told (PyFlat.played Kp430Neutral.step st ((raw.map PyKp430.whole).drop i)) = PyKp430.answers ns, ⟨none, [], none, none, none, none, rfl, ⟨dx, .non, by rw [hid_ne nSt]; exact e4 _ _ hS3, cS, cx, rfl⟩, hT4, e4 _ _ htl3, hans.symm⟩, ?_, ?_, ?_⟩
    · rintro i σ' H' _ ⟨st, out, v3, v4, v5, v6, rfl, hI, hT', h5, h6⟩
      obtain ⟨_, _, _, _, ex, _⟩ := hI
      exact sq_of (hid_sub _ _ (ex _ _ cd))
    · rintro i x σ' H' hi ⟨st, out, v3, v4, v5, v6, rfl, hI, hT', h5, h6⟩
      obtain ⟨t, hti, rfl⟩ := getE_map hi
      have hil : i < raw.length := by rw [← hC.1]; exact (List.getElem?_eq_some_iff.mp hti).1
      have hci : raw[i]? = some raw[i] := List.getElem?_eq_getElem hil
      obtain ⟨ln, lr, q1, q2, q3⟩ := cA.2 i t _ hti hci
      obtain ⟨n, nn, row, cc, d1, d2, d3, d4, d5, d6⟩ := hdec raw[i] (List.getElem_mem hil)
      have q3' : src Hs lr = some (.lst (row.map V.int)) := by rw [src_of q1, q3, d3]
      have q2' : Hs ln = some (.lst (nn.map nV)) := by rw [q2, d2, ints_nats]
      have hT : H' t = some (.tup [nV n, .ref ln, .ref lr]) := by
        obtain ⟨_, _, _, _, ex, _⟩ := hI
        rw [d1] at q1
        exact hid_sub _ _ (ex _ _ q1)
      rw [List.drop_eq_getElem_cons (by rw [List.length_map]; exact hil), List.getElem_map] at h6
      have h7 : out ++ (((Kp430Neutral.step st (PyKp430.whole raw[i])).2.length : Int) :: (Kp430Neutral.step st (PyKp430.whole raw[i])).2 ++ PyFlat.told (PyFlat.played Kp430Neutral.step (Kp430Neutral.step st (PyKp430.whole raw[i])).1 ((raw.map PyKp430.whole).drop (i + 1)))) = PyKp430.answers ns := h6
      rw [play_step d6] at h7
      have hl7 : out.length + 1 + ((Kp430.step st cc).2.num :: (Kp430.step st cc).2.nums).length ≤ 10000000 := by
        rw [← h7] at hlen
        simp only [List.length_append, List.length_cons] at hlen ⊢
        omega
      refine g_three hT ?_
      refine q_answer (st_tell cn h5 hI) (ev_var rfl) (ea_cons (ev_var rfl) (ea_cons (ev_var rfl) (ea_cons (ev_var rfl) ea_nil))) (Hs := upd Hs tl (.lst (out.map V.int))) (by rw [upd_ne (ne_of_none q2' cn)]; exact q2') (src_upd cn q3') d4 d5 hT' (cT.upd fun _ z => by cases z) fun H5 r hI5 hT5 hr5 hrn => ?_
      have htl5 : H5 tl = some (.lst (out.map V.int)) := by
        obtain ⟨_, _, _, _, ex, _⟩ := hI5
        exact ex _ _ upd_same
      have nr := ne_upd hrn
      refine q_appZ htl5 (ev_var rfl) (ev_lenS (es_of (ev_var (by rfl)) (sq_of hr5))) (by rw [List.length_map]; exact Nat.lt_of_lt_of_le (m := 10000001) (by omega) (by decide)) fun H6 e6 => ?_
      refine s_extZ upd_same (by rw [upd_ne nr]; exact e6 _ _ hr5) (ev_var rfl) (ev_var rfl) (by rw [List.length_append, List.length_map, List.length_map]; exact Nat.le_trans (m := 10000001) (by show out.length + 1 + _ ≤ _; omega) (by decide)) fun H7 e7 => ?_
      have hI7 := (st_untell cn cm hI5).mono (hid_ex e6)
      refine ⟨(Kp430.step st cc).1, out ++ ((((Kp430.step st cc).2.num :: (Kp430.step st cc).2.nums).length : Nat) : Int) :: ((Kp430.step st cc).2.num :: (Kp430.step st cc).2.nums), _, _, _, _, rfl, ?_, tabs_mut ((tabs_mut (hT5.ext e6) (e6 _ _ htl5)).ext e7) (e7 _ _ upd_same), ?_, ?_⟩
      · rw [hid_upd]
        refine hI7.mono ?_
        have := hid_ex (d := tl) e7
        rw [hid_upd] at this
        exact this
      · rw [upd_same, List.map_append, List.map_cons, List.length_map]
        rw [List.append_assoc]; rfl
      · rw [List.append_assoc]; exact h7
    · rintro σ' H' ⟨st, out, v3, v4, v5, v6, rfl, hI, hT', h5, h6⟩
      have hd0 : (raw.map PyKp430.whole).drop (ts.map V.ref).length = [] := List.drop_of_length_le (by rw [List.length_map, List.length_map, hC.1]; exact Nat.le_refl _)
      rw [hd0] at h6
      have h6 : out ++ [] = PyKp430.answers ns := h6
      rw [List.append_nil] at h6
      refine s_ret (ev_var rfl) fun H8 e8 => k H8 tl ?_
      rw [← h6]
      exact e8 _ _ h5
end
end Ps
end

section
set_option maxRecDepth 100000
set_option maxHeartbeats 2000000
namespace Ps
open PySem PySem.Spec PyProof.Rows L2 Evl
/-! From what the written part holds to what the defs need. -/
section
variable {P : Program} {w : World} {K : PySem.W.Frag} {h : Heap} {mg : Str → Option Value} {base : Heap} {C f r : Addr} {x m q : Str} {st : Stmt} {ps : List Str} {oc : Value} {od an : Option Addr} {osl : Array (Option Value)} {kV doc pm cdv ct : Value}
abbrev BindsBy (x : Str) (st : Stmt) (ps : List Str) : Prop := ∀ (kV doc pm : Value) (an : Option Addr) (cdv ct : Value) (us : List Value), us.length = ps.length → bindArgs (PySem.W.fnOf x x (defArgs st) (defBody st) (defScope st) .none kV doc pm an cdv ct) ⟨us, []⟩ = pure (ps.zip us)
theorem fun_at (X : K.In h) (G : h.Ns mainGlobals mg) (hb : ∀ (kV doc pm : Value) (an : Option Addr) (cdv ct : Value) (us : List Value), us.length = ps.length → bindArgs (PySem.W.fnOf x x (defArgs st) (defBody st) (defScope st) .none kV doc pm an cdv ct) ⟨us, []⟩ = pure (ps.zip us))
    (a : PySem.W.nsIn K mainGlobals x = some (some (.ref f))) (l : K.lookup f = some ⟨oc, od, .func (PySem.W.fnOf x x (defArgs st) (defBody st) (defScope st) .none kV doc pm an cdv ct), osl⟩) (c : PySem.W.codeIn K cdv x = true) (k : PySem.W.keepIn K (.ref f) = true) : FunAt K mg x st ps := by
  have F := fun_mk (st := st) l c k
  exact ⟨f, _, F, PySem.W.mg_of X G a, F.binds (ps := ps) hb⟩
theorem cfun_at {c0 : Addr} (X : K.In h) (G : h.Ns mainGlobals mg) (hb : ∀ (kV doc pm : Value) (an : Option Addr) (cdv ct : Value) (us : List Value), us.length = ps.length → bindArgs (PySem.W.fnOf x x (defArgs st) (defBody st) (defScope st) .none kV doc pm an cdv ct) ⟨us, []⟩ = pure (ps.zip us))
    (a : PySem.W.nsIn K mainGlobals x = some (some (.ref f))) (l : K.lookup f = some ⟨oc, od, .func (PySem.W.fnOf x x (defArgs st) (defBody st) (defScope st) .none kV doc pm an (.ref c0) ct), osl⟩) (c : PySem.W.codeIn K (.ref c0) x = true) (k : PySem.W.keepIn K (.ref f) = true) : FunAtC K mg x st ps c0 := by
  have F : FunC K x x st c0 f _ := ⟨⟨oc, od, kV, doc, pm, an, ct, osl, rfl, l, c⟩, k⟩
  exact ⟨f, _, F, PySem.W.mg_of X G a, F.fun.binds (ps := ps) hb⟩
theorem mfun_at (hb : ∀ (kV doc pm : Value) (an : Option Addr) (cdv ct : Value) (us : List Value), us.length = ps.length → bindArgs (PySem.W.fnOf m q (defArgs st) (defBody st) (defScope st) .none kV doc pm an cdv ct) ⟨us, []⟩ = pure (ps.zip us))
    (a : PySem.W.findIn K (.ref C) m = some (some (.ref f))) (i : PySem.W.isFn K (.ref f) = true) (l : K.lookup f = some ⟨oc, od, .func (PySem.W.fnOf m q (defArgs st) (defBody st) (defScope st) .none kV doc pm an cdv ct), osl⟩) (c : PySem.W.codeIn K cdv q = true) (k : PySem.W.keepIn K (.ref f) = true) : MFunAt K C m q st ps := by
  have F := fun_mk (st := st) l c k
  exact ⟨f, _, F, ⟨a, i, k⟩, F.binds (ps := ps) hb⟩
theorem ifun_at (hb : ∀ (kV doc pm : Value) (an : Option Addr) (cdv ct : Value) (us : List Value), us.length = ps.length → bindArgs (PySem.W.fnOf "__init__" q (defArgs st) (defBody st) (defScope st) .none kV doc pm an cdv ct) ⟨us, []⟩ = pure (ps.zip us))
    (a : PySem.W.findIn K (.ref C) "__init__" = some (some (.ref f))) (i : PySem.W.isFn K (.ref f) = true) (l : K.lookup f = some ⟨oc, od, .func (PySem.W.fnOf "__init__" q (defArgs st) (defBody st) (defScope st) .none kV doc pm an cdv ct), osl⟩) (c : PySem.W.codeIn K cdv q = true) (k : PySem.W.keepIn K (.ref f) = true)
    (mk : PySem.W.makesIn K C = true) (kc : PySem.W.keepIn K (.ref C) = true) : IFunAt K C q st ps := by
  have F := fun_mk (st := st) l c k
  exact ⟨f, _, F, ⟨mk, a, i, kc⟩, F.binds (ps := ps) hb⟩
theorem gint_at (X : K.In h) (G : h.Ns mainGlobals mg) {n : Int} {t : Tok} (a : PySem.W.nsIn K mainGlobals x = some (some (.int n t))) : GInt mg x n := ⟨t, PySem.W.mg_of X G a⟩
/-- names of a list of defs -/
def NamesAt (mg : Str → Option Value) : List Addr → List Str → Prop
  | [], [] => True
  | f :: fs, x :: xs => mg x = some (.ref f) ∧ NamesAt mg fs xs
  | _, _ => False
theorem names_ix : ∀ {fs : List Addr} {xs : List Str}, NamesAt mg fs xs → fs.length = xs.length ∧ ∀ (i : Nat) (f : Addr) (y : Str), fs[i]? = some f → xs[i]? = some y → mg y = some (.ref f)
  | [], [], _ => ⟨rfl, fun i f y h => by simp at h⟩
  | f :: fs, x :: xs, ⟨h1, h2⟩ => by
    obtain ⟨e1, e2⟩ := names_ix h2
    refine ⟨by rw [List.length_cons, List.length_cons, e1], fun i g y h3 h4 => ?_⟩
    cases i with
    | zero =>
      cases h3; cases h4
      exact h1
    | succ i => exact e2 i g y h3 h4
theorem vals_refsF : ∀ fs : List Addr, Vals (fs.map V.ref) (fs.map Value.ref)
  | [] => .nil
  | _ :: fs => .cons rfl (vals_refsF fs)
theorem tup_at (X : K.In h) (G : h.Ns mainGlobals mg) {fs : List Addr} {xs : List Str} {n : Nat} (a : PySem.W.nsIn K mainGlobals x = some (some (.ref r))) (l : K.lookup r = some ⟨.type "tuple", none, .seq (fs.map Value.ref).toArray n, #[]⟩) (hn : fs.length ≤ 100) (hN : NamesAt mg fs xs) : TupAt K mg x xs := by
  obtain ⟨e1, e2⟩ := names_ix hN
  refine ⟨r, fs, PySem.W.mg_of X G a, fun H => Or.inr ⟨_, _, n, l, rfl, rfl, ?_, vals_refsF fs⟩, e1, e2⟩
  show (fs.map Value.ref).toArray.size ≤ _
  rw [List.size_toArray, List.length_map]
  exact Nat.le_trans hn (by decide)
/-! ### the dict of the forms -/
theorem pairs_lit : ∀ T : List (Int × Tok × Addr), Pairs (mixKind P w) (T.map fun x => (⟨x.1, .int x.1 x.2.1, .ref x.2.2⟩ : DictEntry)) (T.map fun x => ((Sum.inl x.1 : Key), Value.ref x.2.2))
  | [] => .nil
  | x :: T => .cons (show Value.isInt x.1 (.int x.1 x.2.1) = true by unfold Value.isInt; exact decide_eq_true rfl) rfl (pairs_lit T)
theorem nd_inl {l : List Int} (h : l.Nodup) : (l.map (Sum.inl : Int → Key)).Nodup := by
  rw [List.Nodup, List.pairwise_map]
  exact h.imp fun hne e => hne (Sum.inl.inj e)
theorem dict_lit {T : List (Int × Tok × Addr)} {d : Addr} {n : Nat} (l : K.lookup d = some ⟨.type "dict", none, .dict (T.map fun x => (⟨x.1, .int x.1 x.2.1, .ref x.2.2⟩ : DictEntry)).toArray n, #[]⟩) (hh : ∀ x ∈ T, hashInt x.1 = x.1) (nd : (T.map (·.1)).Nodup) (h : Heap) (X : K.In h) :
    h.DictOf (mixKind P w) d (T.map fun x => ((Sum.inl x.1 : Key), Value.ref x.2.2)) := by
  refine ⟨_, _, n, X _ _ l, ⟨rfl, rfl, rfl⟩, rfl, fun e he => ?_, pairs_lit T, ?_⟩
  · rw [List.mem_toArray] at he
    obtain ⟨x, hx, rfl⟩ := List.mem_map.mp he
    exact ⟨Sum.inl x.1, show Value.isInt x.1 (.int x.1 x.2.1) = true by unfold Value.isInt; exact decide_eq_true rfl, (hh x hx).symm⟩
  · rw [List.map_map]
    have : (T.map (·.1)).map (Sum.inl : Int → Key) = T.map ((fun x : Key × Value => x.1) ∘ fun x => ((Sum.inl x.1 : Key), Value.ref x.2.2)) := by rw [List.map_map]; rfl
    rw [← this]
    exact nd_inl nd
theorem form_tup {a : Addr} {n k : Nat} {u : Tok} {ep : Nat} (l : K.lookup a = some ⟨.type "tuple", none, .seq #[.int n u, .bool (k == 1)] ep, #[]⟩) (H : Hp) : SqT K H a [nV n, .bl (k == 1)] :=
  Or.inr ⟨_, _, ep, l, rfl, rfl, (by show 2 ≤ _; decide), .cons ⟨u, rfl⟩ (.cons rfl .nil)⟩
theorem forms_at (X : K.In h) (G : h.Ns mainGlobals mg) {d : Addr} {n : Nat} {t0 t1 t2 t3 t4 t5 t6 t7 t8 t9 t10 t11 t12 t13 t14 t15 t16 t17 t18 t19 t20 t21 t22 t23 t24 t25 t26 u0 u1 u2 u3 u4 u5 u6 u7 u8 u9 u10 u11 u12 u13 u14 u15 u16 u17 u18 u19 u20 u21 u22 u23 u24 u25 u26 : Tok} {a0 a1 a2 a3 a4 a5 a6 a7 a8 a9 a10 a11 a12 a13 a14 a15 a16 a17 a18 a19 a20 a21 a22 a23 a24 a25 a26 : Addr} {e0 e1 e2 e3 e4 e5 e6 e7 e8 e9 e10 e11 e12 e13 e14 e15 e16 e17 e18 e19 e20 e21 e22 e23 e24 e25 e26 : Nat} (a : PySem.W.nsIn K mainGlobals "FORMS" = some (some (.ref d)))
    (l : K.lookup d = some ⟨.type "dict", none, .dict #[⟨0, .int 0 t0, .ref a0⟩, ⟨1, .int 1 t1, .ref a1⟩, ⟨2, .int 2 t2, .ref a2⟩, ⟨3, .int 3 t3, .ref a3⟩, ⟨4, .int 4 t4, .ref a4⟩, ⟨5, .int 5 t5, .ref a5⟩, ⟨6, .int 6 t6, .ref a6⟩, ⟨7, .int 7 t7, .ref a7⟩, ⟨8, .int 8 t8, .ref a8⟩, ⟨9, .int 9 t9, .ref a9⟩, ⟨10, .int 10 t10, .ref a10⟩, ⟨11, .int 11 t11, .ref a11⟩, ⟨12, .int 12 t12, .ref a12⟩, ⟨13, .int 13 t13, .ref a13⟩, ⟨14, .int 14 t14, .ref a14⟩, ⟨15, .int 15 t15, .ref a15⟩, ⟨16, .int 16 t16, .ref a16⟩, ⟨17, .int 17 t17, .ref a17⟩, ⟨18, .int 18 t18, .ref a18⟩, ⟨19, .int 19 t19, .ref a19⟩, ⟨20, .int 20 t20, .ref a20⟩, ⟨21, .int 21 t21, .ref a21⟩, ⟨22, .int 22 t22, .ref a22⟩, ⟨23, .int 23 t23, .ref a23⟩, ⟨24, .int 24 t24, .ref a24⟩, ⟨25, .int 25 t25, .ref a25⟩, ⟨26, .int 26 t26, .ref a26⟩] n, #[]⟩)
    (l0 : K.lookup a0 = some ⟨.type "tuple", none, .seq #[.int 0 u0, .bool true] e0, #[]⟩)
    (l1 : K.lookup a1 = some ⟨.type "tuple", none, .seq #[.int 4 u1, .bool true] e1, #[]⟩)
    (l2 : K.lookup a2 = some ⟨.type "tuple", none, .seq #[.int 2 u2, .bool false] e2, #[]⟩)
    (l3 : K.lookup a3 = some ⟨.type "tuple", none, .seq #[.int 3 u3, .bool false] e3, #[]⟩)
    (l4 : K.lookup a4 = some ⟨.type "tuple", none, .seq #[.int 2 u4, .bool false] e4, #[]⟩)
    (l5 : K.lookup a5 = some ⟨.type "tuple", none, .seq #[.int 2 u5, .bool false] e5, #[]⟩)
    (l6 : K.lookup a6 = some ⟨.type "tuple", none, .seq #[.int 1 u6, .bool false] e6, #[]⟩)
    (l7 : K.lookup a7 = some ⟨.type "tuple", none, .seq #[.int 2 u7, .bool false] e7, #[]⟩)
    (l8 : K.lookup a8 = some ⟨.type "tuple", none, .seq #[.int 2 u8, .bool false] e8, #[]⟩)
    (l9 : K.lookup a9 = some ⟨.type "tuple", none, .seq #[.int 2 u9, .bool false] e9, #[]⟩)
    (l10 : K.lookup a10 = some ⟨.type "tuple", none, .seq #[.int 1 u10, .bool false] e10, #[]⟩)
    (l11 : K.lookup a11 = some ⟨.type "tuple", none, .seq #[.int 0 u11, .bool true] e11, #[]⟩)
    (l12 : K.lookup a12 = some ⟨.type "tuple", none, .seq #[.int 0 u12, .bool true] e12, #[]⟩)
    (l13 : K.lookup a13 = some ⟨.type "tuple", none, .seq #[.int 1 u13, .bool true] e13, #[]⟩)
    (l14 : K.lookup a14 = some ⟨.type "tuple", none, .seq #[.int 0 u14, .bool false] e14, #[]⟩)
    (l15 : K.lookup a15 = some ⟨.type "tuple", none, .seq #[.int 0 u15, .bool true] e15, #[]⟩)
    (l16 : K.lookup a16 = some ⟨.type "tuple", none, .seq #[.int 1 u16, .bool false] e16, #[]⟩)
    (l17 : K.lookup a17 = some ⟨.type "tuple", none, .seq #[.int 0 u17, .bool false] e17, #[]⟩)
    (l18 : K.lookup a18 = some ⟨.type "tuple", none, .seq #[.int 0 u18, .bool true] e18, #[]⟩)
    (l19 : K.lookup a19 = some ⟨.type "tuple", none, .seq #[.int 2 u19, .bool true] e19, #[]⟩)
    (l20 : K.lookup a20 = some ⟨.type "tuple", none, .seq #[.int 0 u20, .bool true] e20, #[]⟩)
    (l21 : K.lookup a21 = some ⟨.type "tuple", none, .seq #[.int 0 u21, .bool true] e21, #[]⟩)
    (l22 : K.lookup a22 = some ⟨.type "tuple", none, .seq #[.int 1 u22, .bool false] e22, #[]⟩)
    (l23 : K.lookup a23 = some ⟨.type "tuple", none, .seq #[.int 1 u23, .bool false] e23, #[]⟩)
    (l24 : K.lookup a24 = some ⟨.type "tuple", none, .seq #[.int 1 u24, .bool false] e24, #[]⟩)
    (l25 : K.lookup a25 = some ⟨.type "tuple", none, .seq #[.int 1 u25, .bool false] e25, #[]⟩)
    (l26 : K.lookup a26 = some ⟨.type "tuple", none, .seq #[.int 0 u26, .bool false] e26, #[]⟩)
    : FormsAt P w K mg := by
  refine ⟨d, [(0, t0, a0), (1, t1, a1), (2, t2, a2), (3, t3, a3), (4, t4, a4), (5, t5, a5), (6, t6, a6), (7, t7, a7), (8, t8, a8), (9, t9, a9), (10, t10, a10), (11, t11, a11), (12, t12, a12), (13, t13, a13), (14, t14, a14), (15, t15, a15), (16, t16, a16), (17, t17, a17), (18, t18, a18), (19, t19, a19), (20, t20, a20), (21, t21, a21), (22, t22, a22), (23, t23, a23), (24, t24, a24), (25, t25, a25), (26, t26, a26)].map (fun x => ((Sum.inl x.1 : Key), Value.ref x.2.2)), PySem.W.mg_of X G a, fun h X => dict_lit (n := n) (T := [(0, t0, a0), (1, t1, a1), (2, t2, a2), (3, t3, a3), (4, t4, a4), (5, t5, a5), (6, t6, a6), (7, t7, a7), (8, t8, a8), (9, t9, a9), (10, t10, a10), (11, t11, a11), (12, t12, a12), (13, t13, a13), (14, t14, a14), (15, t15, a15), (16, t16, a16), (17, t17, a17), (18, t18, a18), (19, t19, a19), (20, t20, a20), (21, t21, a21), (22, t22, a22), (23, t23, a23), (24, t24, a24), (25, t25, a25), (26, t26, a26)]) l ?_ ?_ h X, fun p nn kk hs => ?_⟩
  · intro x hx
    simp only [List.mem_cons, List.not_mem_nil, or_false] at hx
    rcases hx with rfl | rfl | rfl | rfl | rfl | rfl | rfl | rfl | rfl | rfl | rfl | rfl | rfl | rfl | rfl | rfl | rfl | rfl | rfl | rfl | rfl | rfl | rfl | rfl | rfl | rfl | rfl <;> rfl
  · show [(0 : Int), (1 : Int), (2 : Int), (3 : Int), (4 : Int), (5 : Int), (6 : Int), (7 : Int), (8 : Int), (9 : Int), (10 : Int), (11 : Int), (12 : Int), (13 : Int), (14 : Int), (15 : Int), (16 : Int), (17 : Int), (18 : Int), (19 : Int), (20 : Int), (21 : Int), (22 : Int), (23 : Int), (24 : Int), (25 : Int), (26 : Int)].Nodup
    decide
  · have hr := shape_range hs
    obtain ⟨j, rfl⟩ : ∃ j : Nat, p = (j : Int) := ⟨p.toNat, by omega⟩
    have hj : j < 27 := by omega
    match j, hj with
    | 0, _ =>
      have hs : some ((0 : Nat), (1 : Nat)) = some (nn, kk) := hs
      cases hs
      exact ⟨a0, rfl, form_tup l0⟩
    | 1, _ =>
      have hs : some ((4 : Nat), (1 : Nat)) = some (nn, kk) := hs
      cases hs
      exact ⟨a1, rfl, form_tup l1⟩
    | 2, _ =>
      have hs : some ((2 : Nat), (0 : Nat)) = some (nn, kk) := hs
      cases hs
      exact ⟨a2, rfl, form_tup l2⟩
    | 3, _ =>
      have hs : some ((3 : Nat), (0 : Nat)) = some (nn, kk) := hs
      cases hs
      exact ⟨a3, rfl, form_tup l3⟩
    | 4, _ =>
      have hs : some ((2 : Nat), (0 : Nat)) = some (nn, kk) := hs
      cases hs
      exact ⟨a4, rfl, form_tup l4⟩
    | 5, _ =>
      have hs : some ((2 : Nat), (0 : Nat)) = some (nn, kk) := hs
      cases hs
      exact ⟨a5, rfl, form_tup l5⟩
    | 6, _ =>
      have hs : some ((1 : Nat), (0 : Nat)) = some (nn, kk) := hs
      cases hs
      exact ⟨a6, rfl, form_tup l6⟩
    | 7, _ =>
      have hs : some ((2 : Nat), (0 : Nat)) = some (nn, kk) := hs
      cases hs
      exact ⟨a7, rfl, form_tup l7⟩
    | 8, _ =>
      have hs : some ((2 : Nat), (0 : Nat)) = some (nn, kk) := hs
      cases hs
      exact ⟨a8, rfl, form_tup l8⟩
    | 9, _ =>
      have hs : some ((2 : Nat), (0 : Nat)) = some (nn, kk) := hs
      cases hs
      exact ⟨a9, rfl, form_tup l9⟩
    | 10, _ =>
      have hs : some ((1 : Nat), (0 : Nat)) = some (nn, kk) := hs
      cases hs
      exact ⟨a10, rfl, form_tup l10⟩
    | 11, _ =>
      have hs : some ((0 : Nat), (1 : Nat)) = some (nn, kk) := hs
      cases hs
      exact ⟨a11, rfl, form_tup l11⟩
    | 12, _ =>
      have hs : some ((0 : Nat), (1 : Nat)) = some (nn, kk) := hs
      cases hs
      exact ⟨a12, rfl, form_tup l12⟩
    | 13, _ =>
      have hs : some ((1 : Nat), (1 : Nat)) = some (nn, kk) := hs
      cases hs
      exact ⟨a13, rfl, form_tup l13⟩
    | 14, _ =>
      have hs : some ((0 : Nat), (0 : Nat)) = some (nn, kk) := hs
      cases hs
      exact ⟨a14, rfl, form_tup l14⟩
    | 15, _ =>
      have hs : some ((0 : Nat), (1 : Nat)) = some (nn, kk) := hs
      cases hs
      exact ⟨a15, rfl, form_tup l15⟩
    | 16, _ =>
      have hs : some ((1 : Nat), (0 : Nat)) = some (nn, kk) := hs
      cases hs
      exact ⟨a16, rfl, form_tup l16⟩
    | 17, _ =>
      have hs : some ((0 : Nat), (0 : Nat)) = some (nn, kk) := hs
      cases hs
      exact ⟨a17, rfl, form_tup l17⟩
    | 18, _ =>
      have hs : some ((0 : Nat), (1 : Nat)) = some (nn, kk) := hs
      cases hs
      exact ⟨a18, rfl, form_tup l18⟩
    | 19, _ =>
      have hs : some ((2 : Nat), (1 : Nat)) = some (nn, kk) := hs
      cases hs
      exact ⟨a19, rfl, form_tup l19⟩
    | 20, _ =>
      have hs : some ((0 : Nat), (1 : Nat)) = some (nn, kk) := hs
      cases hs
      exact ⟨a20, rfl, form_tup l20⟩
    | 21, _ =>
      have hs : some ((0 : Nat), (1 : Nat)) = some (nn, kk) := hs
      cases hs
      exact ⟨a21, rfl, form_tup l21⟩
    | 22, _ =>
      have hs : some ((1 : Nat), (0 : Nat)) = some (nn, kk) := hs
      cases hs
      exact ⟨a22, rfl, form_tup l22⟩
    | 23, _ =>
      have hs : some ((1 : Nat), (0 : Nat)) = some (nn, kk) := hs
      cases hs
      exact ⟨a23, rfl, form_tup l23⟩
    | 24, _ =>
      have hs : some ((1 : Nat), (0 : Nat)) = some (nn, kk) := hs
      cases hs
      exact ⟨a24, rfl, form_tup l24⟩
    | 25, _ =>
      have hs : some ((1 : Nat), (0 : Nat)) = some (nn, kk) := hs
      cases hs
      exact ⟨a25, rfl, form_tup l25⟩
    | 26, _ =>
      have hs : some ((0 : Nat), (0 : Nat)) = some (nn, kk) := hs
      cases hs
      exact ⟨a26, rfl, form_tup l26⟩
theorem tup_at5 (X : K.In h) (G : h.Ns mainGlobals mg) {f0 f1 f2 f3 f4 : Addr} {x0 x1 x2 x3 x4 : Str} {n : Nat} (a : PySem.W.nsIn K mainGlobals x = some (some (.ref r))) (l : K.lookup r = some ⟨.type "tuple", none, .seq #[.ref f0, .ref f1, .ref f2, .ref f3, .ref f4] n, #[]⟩)
    (n0 : PySem.W.nsIn K mainGlobals x0 = some (some (.ref f0))) (n1 : PySem.W.nsIn K mainGlobals x1 = some (some (.ref f1))) (n2 : PySem.W.nsIn K mainGlobals x2 = some (some (.ref f2))) (n3 : PySem.W.nsIn K mainGlobals x3 = some (some (.ref f3))) (n4 : PySem.W.nsIn K mainGlobals x4 = some (some (.ref f4))) : TupAt K mg x [x0, x1, x2, x3, x4] :=
  tup_at X G (fs := [f0, f1, f2, f3, f4]) (n := n) a l (by show 5 ≤ 100; decide) ⟨PySem.W.mg_of X G n0, PySem.W.mg_of X G n1, PySem.W.mg_of X G n2, PySem.W.mg_of X G n3, PySem.W.mg_of X G n4, trivial⟩
theorem tup_at7 (X : K.In h) (G : h.Ns mainGlobals mg) {f0 f1 f2 f3 f4 f5 f6 : Addr} {x0 x1 x2 x3 x4 x5 x6 : Str} {n : Nat} (a : PySem.W.nsIn K mainGlobals x = some (some (.ref r))) (l : K.lookup r = some ⟨.type "tuple", none, .seq #[.ref f0, .ref f1, .ref f2, .ref f3, .ref f4, .ref f5, .ref f6] n, #[]⟩)
    (n0 : PySem.W.nsIn K mainGlobals x0 = some (some (.ref f0))) (n1 : PySem.W.nsIn K mainGlobals x1 = some (some (.ref f1))) (n2 : PySem.W.nsIn K mainGlobals x2 = some (some (.ref f2))) (n3 : PySem.W.nsIn K mainGlobals x3 = some (some (.ref f3))) (n4 : PySem.W.nsIn K mainGlobals x4 = some (some (.ref f4))) (n5 : PySem.W.nsIn K mainGlobals x5 = some (some (.ref f5))) (n6 : PySem.W.nsIn K mainGlobals x6 = some (some (.ref f6))) : TupAt K mg x [x0, x1, x2, x3, x4, x5, x6] :=
  tup_at X G (fs := [f0, f1, f2, f3, f4, f5, f6]) (n := n) a l (by show 7 ≤ 100; decide) ⟨PySem.W.mg_of X G n0, PySem.W.mg_of X G n1, PySem.W.mg_of X G n2, PySem.W.mg_of X G n3, PySem.W.mg_of X G n4, PySem.W.mg_of X G n5, PySem.W.mg_of X G n6, trivial⟩
end
end Ps
end

section
set_option maxRecDepth 100000
set_option maxHeartbeats 2000000
namespace Ps
open PySem PySem.Spec PyProof.Rows L2 Evl LamX PySem.W
/-! The end of a row whose promise tracks tables of code objects. -/
theorem spec_callT {P : Program} {w : World} {K : PySem.W.Frag} {mg mb : Str → Option Value} {CX : CXT} {k : Nat} {fa : Addr} {fd : FuncData} {ps : List Str} {sp : Sp} {s₁ : Shared} {vals : List Value} {ds : List WData} {R : PySem.W.WRecords} {cl : Str → Option Addr} {d0 : WData} {cs : List (Addr × Addr)}
    (KX : K.In s₁.heap) (hns : s₁.heap.Ns mainGlobals mg) (hb : s₁.heap.Ns builtinsNs mb) (hbb : ∀ x : Str, x ≠ "__name__" → mb x = bootBuiltins x) (hlim : s₁.heap.NoLimit) (hg : s₁.gens = #[])
    (hT : ∀ p ∈ cs, s₁.heap.get? p.2 = some { cls := .none, data := .fields #[] }) (nT : ∀ p ∈ cs, K.lookup p.2 = none) (C : ∀ p ∈ cs, PySem.W.CodeHd s₁.heap p.1 p.2)
    (hbm : ∃ (bm : Addr) (ob : Obj), mg "__builtins__" = some (.ref bm) ∧ bm ≠ builtinsNs ∧ s₁.heap.get? bm = some ob ∧ ob.cls = .type "module" ∧ ob.dict = some builtinsNs ∧ ob.data = .plain)
    (hwl : WellAll w.params s₁.heap vals ds) (hpl : plWs ds = true) (hwt : ∀ d ∈ ds, d.weight ≤ 1048576) (hr : Room k callerA)
    (F : ∀ base : Heap, K.In base → base.Ns mainGlobals mg → (∀ p ∈ cs, TabB base mg p.1 p.2) → FnOk P w K mg base CX k fa fd ps sp) (hbind : ∀ (s : Shared) (us : List Value), us.length = ps.length → BindsTo s fd ⟨us, []⟩ (ps.zip us)) (hlen : ds.length = ps.length)
    (hsp : ∀ (H0 H : Hp) (xs : List V), Ex H0 H → (∀ p ∈ cs, H p.2 = some (.tbl #[])) → DwAll K H0 xs ds → sp xs H (fun v H' => Dw K H' v d0) fun _ _ _ => False)
    (hCX : ∀ H e s', CX [] H s₁ (fun _ _ _ => False) e s' → False) :
    codeAny (model P w) callerA (.call (.ref fa) ⟨vals, []⟩) (fun r s' => ∃ u as, r = .ok (.ret u) ∧ ReadsW R cl s'.heap u d0 as ∧ OldK s₁.heap s'.heap ∧ s'.os = s₁.os ∧ AllBare s'.gens) s₁ := by
  obtain ⟨A, ho, ar⟩ := area_all ds vals hwl hpl hwt
  have hO0 : OnlyF (argH K s₁.heap A) := argH_only ar
  have hok0 : ∀ (H : Hp) b u, argH K s₁.heap A b = some u → ObjOk P w H s₁.heap b u := fun H b u q => by
    obtain ⟨_, vs, h1, h2, ⟨e, rfl⟩ | ⟨e, rfl⟩⟩ := argH_is ar q
    · exact ⟨e, by rw [List.length_map]; exact h1, vs, _, vals_toV h2, e⟩
    · exact ⟨e, by rw [List.length_map]; exact h1, vs, vals_toV h2, _, e, rfl, _, rfl⟩
  have hS := dw_all KX ar ds vals hwl hpl ho
  have hV := vals_toV ho
  have hK0 : ∀ b u, argH K s₁.heap A b = some u → K.lookup b = none := fun b u q => (argH_is ar q).1
  have noS : ∀ {b : Addr} {o : Obj}, s₁.heap.get? b = some o → (∀ vs n, o.data ≠ .seq vs n) → argH K s₁.heap A b = none := fun {b o} e d => by
    cases q : argH K s₁.heap A b with
    | none => rfl
    | some u =>
      obtain ⟨_, vs, _, _, ⟨e2, _⟩ | ⟨e2, _⟩⟩ := argH_is ar q
      · rw [e2] at e
        cases e
        exact absurd rfl (d _ _)
      · rw [e2] at e
        cases e
        exact absurd rfl (d _ _)
  generalize argH K s₁.heap A = H0 at hO0 hok0 hS hK0 noS
  have isT : ∀ b : Addr, b ∈ cs.map (·.2) → s₁.heap.get? b = some { cls := .none, data := .fields #[] } := fun b hb => by
    obtain ⟨p, hp, e⟩ := List.mem_map.mp hb
    rw [← e]
    exact hT p hp
  have memT : ∀ p ∈ cs, p.2 ∈ cs.map (·.2) := fun p hp => List.mem_map.mpr ⟨p, hp, rfl⟩
  have T0 : ∀ b, b ∈ cs.map (·.2) → H0 b = none := fun b hb => noS (isT b hb) fun vs n z => by cases z
  have hH : ∃ H : Hp, (∀ b, b ∈ cs.map (·.2) → H b = some (.tbl #[])) ∧ ∀ b, b ∉ cs.map (·.2) → H b = H0 b := ⟨fun b => if b ∈ cs.map (·.2) then some (.tbl #[]) else H0 b, fun b hb => if_pos hb, fun b hb => if_neg hb⟩
  obtain ⟨H, hHt, hHn⟩ := hH
  have ex : Ex H0 H := fun b o h => by
    have : b ∉ cs.map (·.2) := fun z => by rw [T0 b z] at h; cases h
    rw [hHn b this]; exact h
  have hok : HOk P w H s₁.heap := fun b u z => by
    by_cases hb : b ∈ cs.map (·.2)
    · rw [hHt b hb] at z
      cases z
      exact isT b hb
    · rw [hHn b hb] at z
      exact hok0 H b u z
  have noD : ∀ {b : Addr} {o : Obj}, s₁.heap.get? b = some o → (∀ vs n, o.data ≠ .seq vs n) → o.data ≠ .fields #[] → H b = none := fun {b o} e h1 h2 => by
    have nb : b ∉ cs.map (·.2) := fun z => by
      rw [isT b z] at e
      cases e
      exact h2 rfl
    rw [hHn b nb]
    exact noS e h1
  have noA : ∀ {b : Addr} {o : Obj} {es : Array DictEntry} {ep : Nat}, s₁.heap.get? b = some o → o.data = .dict es ep → H b = none := fun {b o es ep} e d => by
    refine noD e (fun vs n z => ?_) fun z => ?_
    · rw [d] at z; cases z
    · rw [d] at z; cases z
  have base_of : ∀ {b : Addr} {o : Obj}, s₁.heap.get? b = some o → H b = none → (hidT s₁.heap H).get? b = some o := fun e n => hidT_get e n
  have nsK : ∀ {b : Addr} {m : Str → Option Value}, s₁.heap.Ns b m → (hidT s₁.heap H).Ns b m := fun {b m} ⟨o, es, ep, e, d, r⟩ => ⟨o, es, ep, base_of e (noA e d), d, r⟩
  have nK : ∀ b o, K.lookup b = some o → H b = none := fun b o e => by
    by_cases hb : b ∈ cs.map (·.2)
    · obtain ⟨p, hp, ep⟩ := List.mem_map.mp hb
      rw [← ep, nT p hp] at e
      cases e
    · rw [hHn b hb]
      cases q : H0 b with
      | none => rfl
      | some u =>
        rw [hK0 b u q] at e
        cases e
  have hKb : K.In (hidT s₁.heap H) := fun b o e => base_of (KX b o e) (nK b o e)
  have hM : L2.Mod K mg (hidT s₁.heap H) := ⟨hKb, nsK hns, ⟨mb, nsK hb, hbb⟩, let ⟨mc, h1, h2⟩ := hlim; ⟨mc, nsK h1, h2⟩⟩
  have TB : ∀ p ∈ cs, TabB (hidT s₁.heap H) mg p.1 p.2 := fun p hp => by
    have hTp := hT p hp
    refine ⟨?_, ?_, fun z => ?_⟩
    · obtain ⟨o, us, file, tf, flags, tg, inF, text, tt, e1, r1, r2, r3, r4, r5, r6, r7, r8, hne⟩ := C p hp
      refine ⟨o, us, file, tf, flags, tg, inF, text, tt, base_of e1 (noD e1 (fun vs n z => ?_) fun z => ?_), r1, r2, r3, r4, r5, r6, r7, r8, hne⟩
      · rw [r2] at z
        cases z
      · rw [r2] at z
        cases z
        simp at r3
    · obtain ⟨bm, ob, b1, b2, b3, b4, b5, b6⟩ := hbm
      have nG : bm ≠ mainGlobals := fun q => by
        obtain ⟨o, es, ep, e, hd, _⟩ := hns
        rw [q, e] at b3
        cases b3
        rw [hd] at b6
        cases b6
      have nP : bm ≠ p.2 := fun q => by
        rw [q, hTp] at b3
        cases b3
        cases b6
      refine ⟨bm, ob, b1, b2, nG, nP, base_of b3 (noD b3 (fun vs n z => ?_) fun z => ?_), b4, b5, b6⟩
      · rw [b6] at z
        cases z
      · rw [b6] at z
        cases z
    · obtain ⟨o, es, ep, e, hd, _⟩ := hns
      rw [z, hTp] at e
      cases e
      cases hd
  have e0 : Env0 P w K mg (hidT s₁.heap H) callerA [] s₁ H := ⟨rfl, hM, fun b o e => of_hidT e, Nat.le_of_eq (hidT_size _ _), trivial, fun b hb => absurd (show b ∈ ([] : List Addr) from hb) (by simp), hok, .of_eq hg⟩
  have hl : vals.length = ps.length := by rw [wellAll_len hwl]; exact hlen
  refine codeAny_mono ((F _ hKb (nsK hns) TB).run callerA [] s₁ H ⟨vals, []⟩ vals (vals.map toV) _ _ hr e0 (hbind s₁ vals hl) hV (hsp H0 H _ ex (fun p hp => hHt _ (memT p hp)) hS)) fun r s' x => ?_
  cases r with
  | error e => exact (hCX H e s' x).elim
  | ok fl =>
    cases fl with
    | next => exact False.elim x
    | brk => exact False.elim x
    | cont => exact False.elim x
    | ret u =>
      obtain ⟨v, H', os, bare, un, hok', r', q⟩ := x
      have key : ∀ b o, b ∉ cs.map (·.2) → s₁.heap.get? b = some o → s'.heap.get? b = some o := fun b o nb e => by
        cases q2 : H b with
        | none => exact un.keep b o e q2 (by intro z; exact absurd (show b ∈ ([] : List Addr) from z) (by simp)) (by simp)
        | some u2 =>
          have q3 := q2
          rw [hHn b nb] at q3
          rcases hO0 b with z | ⟨ob, u3, z⟩
          · rw [q3] at z
            cases z
          · rw [q3] at z
            cases z
            have z2 := un.frzs b ob _ q2
            obtain ⟨e1, _⟩ := hok b _ q2
            obtain ⟨e2, _⟩ := hok' b _ z2
            rw [e] at e1
            cases e1
            exact e2
      have grown : ∀ p ∈ cs, ∃ more : Array Value, s'.heap.get? p.2 = some { cls := .none, data := .fields more } := fun p hp => by
        obtain ⟨more, z⟩ := un.tbls p.2 #[] (hHt _ (memT p hp))
        exact ⟨_, hok' p.2 _ z⟩
      have KX' : K.In s'.heap := fun b o e => key b o (fun hb => by
        obtain ⟨p, hp, ep⟩ := List.mem_map.mp hb
        rw [← ep, nT p hp] at e
        cases e) (KX b o e)
      obtain ⟨as, hrd⟩ := Dw.reads (R := R) (cl := cl) hok' KX' d0 v u q r'
      refine ⟨u, as, rfl, hrd, ⟨fun b o e => ?_, fun b o e => ?_⟩, os, bare⟩
      · by_cases hb : b ∈ cs.map (·.2)
        · obtain ⟨p, hp, ep⟩ := List.mem_map.mp hb
          obtain ⟨more, hm⟩ := grown p hp
          rw [← ep] at e ⊢
          rw [hT p hp] at e
          cases e
          exact .inr (.inl ⟨((C p hp).tab (hT p hp)).isCodeTable, rfl, #[], more, rfl, by rw [Array.empty_append]; exact hm⟩)
        · exact .inl (key b o hb e)
      · by_cases hb : b ∈ cs.map (·.2)
        · obtain ⟨p, hp, ep⟩ := List.mem_map.mp hb
          obtain ⟨more, hm⟩ := grown p hp
          rw [← ep]
          exact ⟨_, hm⟩
        · exact ⟨o, key b o hb e⟩
/-- the row, with tables -/
theorem walk_specT {r : OpenSpec} {k : Nat} {q : Program} {loose : List Str} {XP : (Str → Option Value) → Heap → Prop} {YP : World → Heap → Prop} {d : DefRec} {K : Params → PySem.W.Frag} {CX : CXT} {ps : List Str} {sp : PySem.W.Frag → Sp} {cs : List (Addr × Addr)}
    (hwell : r.wellSaid = true) (hdf : d.params.defaults = []) (hlen : r.args.length = ps.length) (hr : Room k callerA)
    (hY : ∀ (w : World) (h : Heap), YP w h → (K w.params).In h)
    (hcs : ∀ (w : World) (lo : List Str) (mean : ExcName → Option Value) (mg mb : Str → Option Value) (h : Heap), Top q lo mean mg mb h → (K w.params).In h → ∀ p ∈ cs, CodeHd h p.1 p.2 ∧ h.get? p.2 = some (tabObj #[]))
    (nT : ∀ (w : World), ∀ p ∈ cs, (K w.params).lookup p.2 = none)
    (F : ∀ (w : World) (mg : Str → Option Value) (fa : Addr) (h : Heap), YP w h → (K w.params).In h → h.Ns mainGlobals mg → mg d.name = some (.ref fa) →
      ∃ fd : FuncData, (∀ (s : Shared) (us : List Value), us.length = ps.length → BindsTo s fd ⟨us, []⟩ (ps.zip us)) ∧
        ∀ base : Heap, (K w.params).In base → base.Ns mainGlobals mg → (∀ p ∈ cs, TabB base mg p.1 p.2) → FnOk r.prog w (K w.params) mg base CX k fa fd ps (sp (K w.params)))
    (hsp : ∀ (K : PySem.W.Frag) (H0 H : Hp) (xs : List V) (a : Codec.denoteAll r.args), Ex H0 H → (∀ p ∈ cs, H p.2 = some (.tbl #[])) → Codec.withinAll r.args a = true → Codec.app r.args r.asked a = true → DwAll K H0 xs (Codec.encAll r.args a) →
      sp K xs H (fun v H' => Dw K H' v (r.ret.enc (Codec.app r.args r.f a))) fun _ _ _ => False)
    (hCX : ∀ (H : Hp) (s : Shared) (e : Value) (s' : Shared), CX [] H s (fun _ _ _ => False) e s' → False) :
    PySem.W.WalkOS q loose XP YP r d [] (fun f vs => PySem.call f vs) := by
  intro w s₀ s₁ mg mb G Y fa o pm cd doc dV kV ho hd hcd hD hmg hg args vals as hpre hlay hrd hwl hlo
  obtain ⟨a, e1, e2⟩ := PySem.W.os_pre_some hpre
  obtain ⟨e3, hwi⟩ := Codec.encAll_of_decAll r.args args a e1
  subst e3
  have KX := hY w _ Y
  obtain ⟨fd, hb, hF⟩ := F w mg fa _ Y KX G.T.g hmg
  have hc := hcs w _ _ mg mb _ G.T KX
  refine PySem.W.enter_call (codeAny_mono (spec_callT (R := []) (cl := classAt s₀.heap) (d0 := r.ret.enc (Codec.app r.args r.f a)) KX G.T.g G.T.b G.T.builtins G.T.nolimit hg (fun p hp => (hc p hp).2) (nT w) (fun p hp => (hc p hp).1) G.T.bmain hwl (pl_encAll _ _) (layable_weight hlay) hr hF hb (by rw [encAll_len]; exact hlen)
    (fun H0 H xs ex hH hS => hsp _ H0 H xs a ex hH hwi e2 hS) fun H e s' => hCX H s₁ e s') fun r' s' hq => ?_)
  obtain ⟨u, as', rfl, h1, h2, h3, h4⟩ := hq
  exact ⟨.inl ⟨u, _, as', rfl, fun _ => rfl, h1, (OpenSpec.post_iff hwell hwi _ _).mpr rfl, fun z => Bool.noConfusion (show false = true from z)⟩, h2, h3, h4⟩
end Ps
end

section
set_option maxRecDepth 100000
set_option maxHeartbeats 2000000
namespace Ps
open PySem PySem.Spec PyProof.Rows L2 Evl LamX
abbrev tbs (PB PG PC : Addr) : List (Addr × Str) := [(PB, lamQ "best"), (PG, lamQ "greedy_slate"), (PC, lamQ "cover")]
theorem hu_best {PB PG PC : Addr} (h1 : PB ≠ PG) (h2 : PB ≠ PC) (h3 : PG ≠ PC) : ∀ p ∈ tbs PB PG PC, p.1 = PB → p.2 = lamQ "best" := fun p hp e => by
  simp only [tbs, List.mem_cons, List.not_mem_nil, or_false] at hp
  rcases hp with rfl | rfl | rfl
  · rfl
  · exact absurd e.symm h1
  · exact absurd e.symm h2
theorem hu_greedy_slate {PB PG PC : Addr} (h1 : PB ≠ PG) (h2 : PB ≠ PC) (h3 : PG ≠ PC) : ∀ p ∈ tbs PB PG PC, p.1 = PG → p.2 = lamQ "greedy_slate" := fun p hp e => by
  simp only [tbs, List.mem_cons, List.not_mem_nil, or_false] at hp
  rcases hp with rfl | rfl | rfl
  · exact absurd e h1
  · rfl
  · exact absurd e.symm h3
theorem hu_cover {PB PG PC : Addr} (h1 : PB ≠ PG) (h2 : PB ≠ PC) (h3 : PG ≠ PC) : ∀ p ∈ tbs PB PG PC, p.1 = PC → p.2 = lamQ "cover" := fun p hp e => by
  simp only [tbs, List.mem_cons, List.not_mem_nil, or_false] at hp
  rcases hp with rfl | rfl | rfl
  · exact absurd e h2
  · exact absurd e h3
  · rfl
theorem b_weights_fit (kV doc pm : Value) (an : Option Addr) (cdv ct : Value) (us : List Value) (hl : us.length = (["weights"] : List Str).length) : bindArgs (PySem.W.fnOf "weights_fit" "weights_fit" (defArgs s_weights_fit) (defBody s_weights_fit) (defScope s_weights_fit) .none kV doc pm an cdv ct) ⟨us, []⟩ = pure ((["weights"] : List Str).zip us) := match us, hl with | [_], _ => rfl
theorem b_topics_fit (kV doc pm : Value) (an : Option Addr) (cdv ct : Value) (us : List Value) (hl : us.length = (["topics"] : List Str).length) : bindArgs (PySem.W.fnOf "topics_fit" "topics_fit" (defArgs s_topics_fit) (defBody s_topics_fit) (defScope s_topics_fit) .none kV doc pm an cdv ct) ⟨us, []⟩ = pure ((["topics"] : List Str).zip us) := match us, hl with | [_], _ => rfl
theorem b_candidate_fits (kV doc pm : Value) (an : Option Addr) (cdv ct : Value) (us : List Value) (hl : us.length = (["score", "group", "creator", "age", "topics"] : List Str).length) : bindArgs (PySem.W.fnOf "candidate_fits" "candidate_fits" (defArgs s_candidate_fits) (defBody s_candidate_fits) (defScope s_candidate_fits) .none kV doc pm an cdv ct) ⟨us, []⟩ = pure ((["score", "group", "creator", "age", "topics"] : List Str).zip us) := match us, hl with | [_, _, _, _, _], _ => rfl
theorem b_quota_fits (kV doc pm : Value) (an : Option Addr) (cdv ct : Value) (us : List Value) (hl : us.length = (["group", "lower", "upper"] : List Str).length) : bindArgs (PySem.W.fnOf "quota_fits" "quota_fits" (defArgs s_quota_fits) (defBody s_quota_fits) (defScope s_quota_fits) .none kV doc pm an cdv ct) ⟨us, []⟩ = pure ((["group", "lower", "upper"] : List Str).zip us) := match us, hl with | [_, _, _], _ => rfl
theorem b_creators_fit (kV doc pm : Value) (an : Option Addr) (cdv ct : Value) (us : List Value) (hl : us.length = (["limit", "spacing"] : List Str).length) : bindArgs (PySem.W.fnOf "creators_fit" "creators_fit" (defArgs s_creators_fit) (defBody s_creators_fit) (defScope s_creators_fit) .none kV doc pm an cdv ct) ⟨us, []⟩ = pure ((["limit", "spacing"] : List Str).zip us) := match us, hl with | [_, _], _ => rfl
theorem b_Page_has_candidate (kV doc pm : Value) (an : Option Addr) (cdv ct : Value) (us : List Value) (hl : us.length = (["self", "candidate"] : List Str).length) : bindArgs (PySem.W.fnOf "has_candidate" "Page.has_candidate" (defArgs s_Page_has_candidate) (defBody s_Page_has_candidate) (defScope s_Page_has_candidate) .none kV doc pm an cdv ct) ⟨us, []⟩ = pure ((["self", "candidate"] : List Str).zip us) := match us, hl with | [_, _], _ => rfl
theorem b_Page_has_position (kV doc pm : Value) (an : Option Addr) (cdv ct : Value) (us : List Value) (hl : us.length = (["self", "position"] : List Str).length) : bindArgs (PySem.W.fnOf "has_position" "Page.has_position" (defArgs s_Page_has_position) (defBody s_Page_has_position) (defScope s_Page_has_position) .none kV doc pm an cdv ct) ⟨us, []⟩ = pure ((["self", "position"] : List Str).zip us) := match us, hl with | [_, _], _ => rfl
theorem b_Page_is_beginning (kV doc pm : Value) (an : Option Addr) (cdv ct : Value) (us : List Value) (hl : us.length = (["self", "listed"] : List Str).length) : bindArgs (PySem.W.fnOf "is_beginning" "Page.is_beginning" (defArgs s_Page_is_beginning) (defBody s_Page_is_beginning) (defScope s_Page_is_beginning) .none kV doc pm an cdv ct) ⟨us, []⟩ = pure ((["self", "listed"] : List Str).zip us) := match us, hl with | [_, _], _ => rfl
theorem b_Page_is_slate (kV doc pm : Value) (an : Option Addr) (cdv ct : Value) (us : List Value) (hl : us.length = (["self", "listed"] : List Str).length) : bindArgs (PySem.W.fnOf "is_slate" "Page.is_slate" (defArgs s_Page_is_slate) (defBody s_Page_is_slate) (defScope s_Page_is_slate) .none kV doc pm an cdv ct) ⟨us, []⟩ = pure ((["self", "listed"] : List Str).zip us) := match us, hl with | [_, _], _ => rfl
theorem b_relevance_of (kV doc pm : Value) (an : Option Addr) (cdv ct : Value) (us : List Value) (hl : us.length = (["page", "listed"] : List Str).length) : bindArgs (PySem.W.fnOf "relevance_of" "relevance_of" (defArgs s_relevance_of) (defBody s_relevance_of) (defScope s_relevance_of) .none kV doc pm an cdv ct) ⟨us, []⟩ = pure ((["page", "listed"] : List Str).zip us) := match us, hl with | [_, _], _ => rfl
theorem b_coverage_of (kV doc pm : Value) (an : Option Addr) (cdv ct : Value) (us : List Value) (hl : us.length = (["page", "listed"] : List Str).length) : bindArgs (PySem.W.fnOf "coverage_of" "coverage_of" (defArgs s_coverage_of) (defBody s_coverage_of) (defScope s_coverage_of) .none kV doc pm an cdv ct) ⟨us, []⟩ = pure ((["page", "listed"] : List Str).zip us) := match us, hl with | [_, _], _ => rfl
theorem b_value_of (kV doc pm : Value) (an : Option Addr) (cdv ct : Value) (us : List Value) (hl : us.length = (["page", "listed"] : List Str).length) : bindArgs (PySem.W.fnOf "value_of" "value_of" (defArgs s_value_of) (defBody s_value_of) (defScope s_value_of) .none kV doc pm an cdv ct) ⟨us, []⟩ = pure ((["page", "listed"] : List Str).zip us) := match us, hl with | [_, _], _ => rfl
theorem b_pin_violation (kV doc pm : Value) (an : Option Addr) (cdv ct : Value) (us : List Value) (hl : us.length = (["page", "listed"] : List Str).length) : bindArgs (PySem.W.fnOf "pin_violation" "pin_violation" (defArgs s_pin_violation) (defBody s_pin_violation) (defScope s_pin_violation) .none kV doc pm an cdv ct) ⟨us, []⟩ = pure ((["page", "listed"] : List Str).zip us) := match us, hl with | [_, _], _ => rfl
theorem b_group_sizes (kV doc pm : Value) (an : Option Addr) (cdv ct : Value) (us : List Value) (hl : us.length = (["page", "listed"] : List Str).length) : bindArgs (PySem.W.fnOf "group_sizes" "group_sizes" (defArgs s_group_sizes) (defBody s_group_sizes) (defScope s_group_sizes) .none kV doc pm an cdv ct) ⟨us, []⟩ = pure ((["page", "listed"] : List Str).zip us) := match us, hl with | [_, _], _ => rfl
theorem b_upper_quota_violation (kV doc pm : Value) (an : Option Addr) (cdv ct : Value) (us : List Value) (hl : us.length = (["page", "listed"] : List Str).length) : bindArgs (PySem.W.fnOf "upper_quota_violation" "upper_quota_violation" (defArgs s_upper_quota_violation) (defBody s_upper_quota_violation) (defScope s_upper_quota_violation) .none kV doc pm an cdv ct) ⟨us, []⟩ = pure ((["page", "listed"] : List Str).zip us) := match us, hl with | [_, _], _ => rfl
theorem b_lower_quota_violation (kV doc pm : Value) (an : Option Addr) (cdv ct : Value) (us : List Value) (hl : us.length = (["page", "listed"] : List Str).length) : bindArgs (PySem.W.fnOf "lower_quota_violation" "lower_quota_violation" (defArgs s_lower_quota_violation) (defBody s_lower_quota_violation) (defScope s_lower_quota_violation) .none kV doc pm an cdv ct) ⟨us, []⟩ = pure ((["page", "listed"] : List Str).zip us) := match us, hl with | [_, _], _ => rfl
theorem b_Page_is_pinned_elsewhere (kV doc pm : Value) (an : Option Addr) (cdv ct : Value) (us : List Value) (hl : us.length = (["self", "candidate", "position"] : List Str).length) : bindArgs (PySem.W.fnOf "is_pinned_elsewhere" "Page.is_pinned_elsewhere" (defArgs s_Page_is_pinned_elsewhere) (defBody s_Page_is_pinned_elsewhere) (defScope s_Page_is_pinned_elsewhere) .none kV doc pm an cdv ct) ⟨us, []⟩ = pure ((["self", "candidate", "position"] : List Str).zip us) := match us, hl with | [_, _, _], _ => rfl
theorem b_creators_of (kV doc pm : Value) (an : Option Addr) (cdv ct : Value) (us : List Value) (hl : us.length = (["page", "listed"] : List Str).length) : bindArgs (PySem.W.fnOf "creators_of" "creators_of" (defArgs s_creators_of) (defBody s_creators_of) (defScope s_creators_of) .none kV doc pm an cdv ct) ⟨us, []⟩ = pure ((["page", "listed"] : List Str).zip us) := match us, hl with | [_, _], _ => rfl
theorem b_limit_violation (kV doc pm : Value) (an : Option Addr) (cdv ct : Value) (us : List Value) (hl : us.length = (["page", "listed"] : List Str).length) : bindArgs (PySem.W.fnOf "limit_violation" "limit_violation" (defArgs s_limit_violation) (defBody s_limit_violation) (defScope s_limit_violation) .none kV doc pm an cdv ct) ⟨us, []⟩ = pure ((["page", "listed"] : List Str).zip us) := match us, hl with | [_, _], _ => rfl
theorem b_spacing_violation (kV doc pm : Value) (an : Option Addr) (cdv ct : Value) (us : List Value) (hl : us.length = (["page", "listed"] : List Str).length) : bindArgs (PySem.W.fnOf "spacing_violation" "spacing_violation" (defArgs s_spacing_violation) (defBody s_spacing_violation) (defScope s_spacing_violation) .none kV doc pm an cdv ct) ⟨us, []⟩ = pure ((["page", "listed"] : List Str).zip us) := match us, hl with | [_, _], _ => rfl
theorem b_forbidden_violation (kV doc pm : Value) (an : Option Addr) (cdv ct : Value) (us : List Value) (hl : us.length = (["page", "listed"] : List Str).length) : bindArgs (PySem.W.fnOf "forbidden_violation" "forbidden_violation" (defArgs s_forbidden_violation) (defBody s_forbidden_violation) (defScope s_forbidden_violation) .none kV doc pm an cdv ct) ⟨us, []⟩ = pure ((["page", "listed"] : List Str).zip us) := match us, hl with | [_, _], _ => rfl
theorem b_freshness_violation (kV doc pm : Value) (an : Option Addr) (cdv ct : Value) (us : List Value) (hl : us.length = (["page", "listed"] : List Str).length) : bindArgs (PySem.W.fnOf "freshness_violation" "freshness_violation" (defArgs s_freshness_violation) (defBody s_freshness_violation) (defScope s_freshness_violation) .none kV doc pm an cdv ct) ⟨us, []⟩ = pure ((["page", "listed"] : List Str).zip us) := match us, hl with | [_, _], _ => rfl
theorem b_first_violation (kV doc pm : Value) (an : Option Addr) (cdv ct : Value) (us : List Value) (hl : us.length = (["page", "slate"] : List Str).length) : bindArgs (PySem.W.fnOf "first_violation" "first_violation" (defArgs s_first_violation) (defBody s_first_violation) (defScope s_first_violation) .none kV doc pm an cdv ct) ⟨us, []⟩ = pure ((["page", "slate"] : List Str).zip us) := match us, hl with | [_, _], _ => rfl
theorem b_is_possible (kV doc pm : Value) (an : Option Addr) (cdv ct : Value) (us : List Value) (hl : us.length = (["page", "beginning"] : List Str).length) : bindArgs (PySem.W.fnOf "is_possible" "is_possible" (defArgs s_is_possible) (defBody s_is_possible) (defScope s_is_possible) .none kV doc pm an cdv ct) ⟨us, []⟩ = pure ((["page", "beginning"] : List Str).zip us) := match us, hl with | [_, _], _ => rfl
theorem b_value (kV doc pm : Value) (an : Option Addr) (cdv ct : Value) (us : List Value) (hl : us.length = (["page", "slate"] : List Str).length) : bindArgs (PySem.W.fnOf "value" "value" (defArgs s_value) (defBody s_value) (defScope s_value) .none kV doc pm an cdv ct) ⟨us, []⟩ = pure ((["page", "slate"] : List Str).zip us) := match us, hl with | [_, _], _ => rfl
theorem b_violation (kV doc pm : Value) (an : Option Addr) (cdv ct : Value) (us : List Value) (hl : us.length = (["page", "slate"] : List Str).length) : bindArgs (PySem.W.fnOf "violation" "violation" (defArgs s_violation) (defBody s_violation) (defScope s_violation) .none kV doc pm an cdv ct) ⟨us, []⟩ = pure ((["page", "slate"] : List Str).zip us) := match us, hl with | [_, _], _ => rfl
theorem b_gain (kV doc pm : Value) (an : Option Addr) (cdv ct : Value) (us : List Value) (hl : us.length = (["page", "candidate", "beginning"] : List Str).length) : bindArgs (PySem.W.fnOf "gain" "gain" (defArgs s_gain) (defBody s_gain) (defScope s_gain) .none kV doc pm an cdv ct) ⟨us, []⟩ = pure ((["page", "candidate", "beginning"] : List Str).zip us) := match us, hl with | [_, _, _], _ => rfl
theorem b_prices_fit (kV doc pm : Value) (an : Option Addr) (cdv ct : Value) (us : List Value) (hl : us.length = (["prices"] : List Str).length) : bindArgs (PySem.W.fnOf "prices_fit" "prices_fit" (defArgs s_prices_fit) (defBody s_prices_fit) (defScope s_prices_fit) .none kV doc pm an cdv ct) ⟨us, []⟩ = pure ((["prices"] : List Str).zip us) := match us, hl with | [_], _ => rfl
theorem b_tuning_fits (kV doc pm : Value) (an : Option Addr) (cdv ct : Value) (us : List Value) (hl : us.length = (["size", "rounds"] : List Str).length) : bindArgs (PySem.W.fnOf "tuning_fits" "tuning_fits" (defArgs s_tuning_fits) (defBody s_tuning_fits) (defScope s_tuning_fits) .none kV doc pm an cdv ct) ⟨us, []⟩ = pure ((["size", "rounds"] : List Str).zip us) := match us, hl with | [_, _], _ => rfl
theorem b_position_part (kV doc pm : Value) (an : Option Addr) (cdv ct : Value) (us : List Value) (hl : us.length = (["page", "prices"] : List Str).length) : bindArgs (PySem.W.fnOf "position_part" "position_part" (defArgs s_position_part) (defBody s_position_part) (defScope s_position_part) .none kV doc pm an cdv ct) ⟨us, []⟩ = pure ((["page", "prices"] : List Str).zip us) := match us, hl with | [_, _], _ => rfl
theorem b_quota_part (kV doc pm : Value) (an : Option Addr) (cdv ct : Value) (us : List Value) (hl : us.length = (["page", "prices"] : List Str).length) : bindArgs (PySem.W.fnOf "quota_part" "quota_part" (defArgs s_quota_part) (defBody s_quota_part) (defScope s_quota_part) .none kV doc pm an cdv ct) ⟨us, []⟩ = pure ((["page", "prices"] : List Str).zip us) := match us, hl with | [_, _], _ => rfl
theorem b_coverage_bound (kV doc pm : Value) (an : Option Addr) (cdv ct : Value) (us : List Value) (hl : us.length = (["page"] : List Str).length) : bindArgs (PySem.W.fnOf "coverage_bound" "coverage_bound" (defArgs s_coverage_bound) (defBody s_coverage_bound) (defScope s_coverage_bound) .none kV doc pm an cdv ct) ⟨us, []⟩ = pure ((["page"] : List Str).zip us) := match us, hl with | [_], _ => rfl
theorem b_bound_of (kV doc pm : Value) (an : Option Addr) (cdv ct : Value) (us : List Value) (hl : us.length = (["page", "prices"] : List Str).length) : bindArgs (PySem.W.fnOf "bound_of" "bound_of" (defArgs s_bound_of) (defBody s_bound_of) (defScope s_bound_of) .none kV doc pm an cdv ct) ⟨us, []⟩ = pure ((["page", "prices"] : List Str).zip us) := match us, hl with | [_, _], _ => rfl
theorem b_bound (kV doc pm : Value) (an : Option Addr) (cdv ct : Value) (us : List Value) (hl : us.length = (["page", "prices"] : List Str).length) : bindArgs (PySem.W.fnOf "bound" "bound" (defArgs s_bound) (defBody s_bound) (defScope s_bound) .none kV doc pm an cdv ct) ⟨us, []⟩ = pure ((["page", "prices"] : List Str).zip us) := match us, hl with | [_, _], _ => rfl
theorem b_tuned_group (kV doc pm : Value) (an : Option Addr) (cdv ct : Value) (us : List Value) (hl : us.length = (["page", "prices", "group", "size"] : List Str).length) : bindArgs (PySem.W.fnOf "tuned_group" "tuned_group" (defArgs s_tuned_group) (defBody s_tuned_group) (defScope s_tuned_group) .none kV doc pm an cdv ct) ⟨us, []⟩ = pure ((["page", "prices", "group", "size"] : List Str).zip us) := match us, hl with | [_, _, _, _], _ => rfl
theorem b_tune (kV doc pm : Value) (an : Option Addr) (cdv ct : Value) (us : List Value) (hl : us.length = (["page", "size", "rounds", "prices"] : List Str).length) : bindArgs (PySem.W.fnOf "tune" "tune" (defArgs s_tune) (defBody s_tune) (defScope s_tune) .none kV doc pm an cdv ct) ⟨us, []⟩ = pure ((["page", "size", "rounds", "prices"] : List Str).zip us) := match us, hl with | [_, _, _, _], _ => rfl
theorem b_reduced (kV doc pm : Value) (an : Option Addr) (cdv ct : Value) (us : List Value) (hl : us.length = (["part", "whole"] : List Str).length) : bindArgs (PySem.W.fnOf "reduced" "reduced" (defArgs s_reduced) (defBody s_reduced) (defScope s_reduced) .none kV doc pm an cdv ct) ⟨us, []⟩ = pure ((["part", "whole"] : List Str).zip us) := match us, hl with | [_, _], _ => rfl
theorem b_exposure (kV doc pm : Value) (an : Option Addr) (cdv ct : Value) (us : List Value) (hl : us.length = (["page", "slate"] : List Str).length) : bindArgs (PySem.W.fnOf "exposure" "exposure" (defArgs s_exposure) (defBody s_exposure) (defScope s_exposure) .none kV doc pm an cdv ct) ⟨us, []⟩ = pure ((["page", "slate"] : List Str).zip us) := match us, hl with | [_, _], _ => rfl
theorem b_candidate_info (kV doc pm : Value) (an : Option Addr) (cdv ct : Value) (us : List Value) (hl : us.length = (["page", "candidate"] : List Str).length) : bindArgs (PySem.W.fnOf "candidate_info" "candidate_info" (defArgs s_candidate_info) (defBody s_candidate_info) (defScope s_candidate_info) .none kV doc pm an cdv ct) ⟨us, []⟩ = pure ((["page", "candidate"] : List Str).zip us) := match us, hl with | [_, _], _ => rfl
theorem b_status (kV doc pm : Value) (an : Option Addr) (cdv ct : Value) (us : List Value) (hl : us.length = (["page"] : List Str).length) : bindArgs (PySem.W.fnOf "status" "status" (defArgs s_status) (defBody s_status) (defScope s_status) .none kV doc pm an cdv ct) ⟨us, []⟩ = pure ((["page"] : List Str).zip us) := match us, hl with | [_], _ => rfl
theorem b_is_feasible (kV doc pm : Value) (an : Option Addr) (cdv ct : Value) (us : List Value) (hl : us.length = (["page", "slate"] : List Str).length) : bindArgs (PySem.W.fnOf "is_feasible" "is_feasible" (defArgs s_is_feasible) (defBody s_is_feasible) (defScope s_is_feasible) .none kV doc pm an cdv ct) ⟨us, []⟩ = pure ((["page", "slate"] : List Str).zip us) := match us, hl with | [_, _], _ => rfl
theorem b_members_fit (kV doc pm : Value) (an : Option Addr) (cdv ct : Value) (us : List Value) (hl : us.length = (["page", "listed"] : List Str).length) : bindArgs (PySem.W.fnOf "members_fit" "members_fit" (defArgs s_members_fit) (defBody s_members_fit) (defScope s_members_fit) .none kV doc pm an cdv ct) ⟨us, []⟩ = pure ((["page", "listed"] : List Str).zip us) := match us, hl with | [_, _], _ => rfl
theorem b_choices_at (kV doc pm : Value) (an : Option Addr) (cdv ct : Value) (us : List Value) (hl : us.length = (["page", "position"] : List Str).length) : bindArgs (PySem.W.fnOf "choices_at" "choices_at" (defArgs s_choices_at) (defBody s_choices_at) (defScope s_choices_at) .none kV doc pm an cdv ct) ⟨us, []⟩ = pure ((["page", "position"] : List Str).zip us) := match us, hl with | [_, _], _ => rfl
theorem b_lengthen (kV doc pm : Value) (an : Option Addr) (cdv ct : Value) (us : List Value) (hl : us.length = (["page", "beginnings", "position"] : List Str).length) : bindArgs (PySem.W.fnOf "lengthen" "lengthen" (defArgs s_lengthen) (defBody s_lengthen) (defScope s_lengthen) .none kV doc pm an cdv ct) ⟨us, []⟩ = pure ((["page", "beginnings", "position"] : List Str).zip us) := match us, hl with | [_, _, _], _ => rfl
theorem b_arrangements (kV doc pm : Value) (an : Option Addr) (cdv ct : Value) (us : List Value) (hl : us.length = (["page"] : List Str).length) : bindArgs (PySem.W.fnOf "arrangements" "arrangements" (defArgs s_arrangements) (defBody s_arrangements) (defScope s_arrangements) .none kV doc pm an cdv ct) ⟨us, []⟩ = pure ((["page"] : List Str).zip us) := match us, hl with | [_], _ => rfl
theorem b_diversity_part (kV doc pm : Value) (an : Option Addr) (cdv ct : Value) (us : List Value) (hl : us.length = (["page", "slate"] : List Str).length) : bindArgs (PySem.W.fnOf "diversity_part" "diversity_part" (defArgs s_diversity_part) (defBody s_diversity_part) (defScope s_diversity_part) .none kV doc pm an cdv ct) ⟨us, []⟩ = pure ((["page", "slate"] : List Str).zip us) := match us, hl with | [_, _], _ => rfl
theorem b_feasible_slates (kV doc pm : Value) (an : Option Addr) (cdv ct : Value) (us : List Value) (hl : us.length = (["page"] : List Str).length) : bindArgs (PySem.W.fnOf "feasible_slates" "feasible_slates" (defArgs s_feasible_slates) (defBody s_feasible_slates) (defScope s_feasible_slates) .none kV doc pm an cdv ct) ⟨us, []⟩ = pure ((["page"] : List Str).zip us) := match us, hl with | [_], _ => rfl
theorem b_Candidate_init (kV doc pm : Value) (an : Option Addr) (cdv ct : Value) (us : List Value) (hl : us.length = (["self", "score", "group", "creator", "age", "topics"] : List Str).length) : bindArgs (PySem.W.fnOf "__init__" "Candidate.__init__" (defArgs s_Candidate___init__) (defBody s_Candidate___init__) (defScope s_Candidate___init__) .none kV doc pm an cdv ct) ⟨us, []⟩ = pure ((["self", "score", "group", "creator", "age", "topics"] : List Str).zip us) := match us, hl with | [_, _, _, _, _, _], _ => rfl
theorem b_Page_init (kV doc pm : Value) (an : Option Addr) (cdv ct : Value) (us : List Value) (hl : us.length = (["self", "weights"] : List Str).length) : bindArgs (PySem.W.fnOf "__init__" "Page.__init__" (defArgs s_Page___init__) (defBody s_Page___init__) (defScope s_Page___init__) .none kV doc pm an cdv ct) ⟨us, []⟩ = pure ((["self", "weights"] : List Str).zip us) := match us, hl with | [_, _], _ => rfl
theorem b_Page_relaxed (kV doc pm : Value) (an : Option Addr) (cdv ct : Value) (us : List Value) (hl : us.length = (["self", "kind"] : List Str).length) : bindArgs (PySem.W.fnOf "relaxed" "Page.relaxed" (defArgs s_Page_relaxed) (defBody s_Page_relaxed) (defScope s_Page_relaxed) .none kV doc pm an cdv ct) ⟨us, []⟩ = pure ((["self", "kind"] : List Str).zip us) := match us, hl with | [_, _], _ => rfl
theorem b_greatest_value (kV doc pm : Value) (an : Option Addr) (cdv ct : Value) (us : List Value) (hl : us.length = (["found"] : List Str).length) : bindArgs (PySem.W.fnOf "greatest_value" "greatest_value" (defArgs s_greatest_value) (defBody s_greatest_value) (defScope s_greatest_value) .none kV doc pm an cdv ct) ⟨us, []⟩ = pure ((["found"] : List Str).zip us) := match us, hl with | [_], _ => rfl
theorem b_count_feasible (kV doc pm : Value) (an : Option Addr) (cdv ct : Value) (us : List Value) (hl : us.length = (["page"] : List Str).length) : bindArgs (PySem.W.fnOf "count_feasible" "count_feasible" (defArgs s_count_feasible) (defBody s_count_feasible) (defScope s_count_feasible) .none kV doc pm an cdv ct) ⟨us, []⟩ = pure ((["page"] : List Str).zip us) := match us, hl with | [_], _ => rfl
theorem b_gap (kV doc pm : Value) (an : Option Addr) (cdv ct : Value) (us : List Value) (hl : us.length = (["page", "prices"] : List Str).length) : bindArgs (PySem.W.fnOf "gap" "gap" (defArgs s_gap) (defBody s_gap) (defScope s_gap) .none kV doc pm an cdv ct) ⟨us, []⟩ = pure ((["page", "prices"] : List Str).zip us) := match us, hl with | [_, _], _ => rfl
theorem b_cost_of (kV doc pm : Value) (an : Option Addr) (cdv ct : Value) (us : List Value) (hl : us.length = (["page", "kind"] : List Str).length) : bindArgs (PySem.W.fnOf "cost_of" "cost_of" (defArgs s_cost_of) (defBody s_cost_of) (defScope s_cost_of) .none kV doc pm an cdv ct) ⟨us, []⟩ = pure ((["page", "kind"] : List Str).zip us) := match us, hl with | [_, _], _ => rfl
theorem b_worth (kV doc pm : Value) (an : Option Addr) (cdv ct : Value) (us : List Value) (hl : us.length = (["page", "candidate"] : List Str).length) : bindArgs (PySem.W.fnOf "worth" "worth" (defArgs s_worth) (defBody s_worth) (defScope s_worth) .none kV doc pm an cdv ct) ⟨us, []⟩ = pure ((["page", "candidate"] : List Str).zip us) := match us, hl with | [_, _], _ => rfl
theorem b_best (kV doc pm : Value) (an : Option Addr) (cdv ct : Value) (us : List Value) (hl : us.length = (["page", "count"] : List Str).length) : bindArgs (PySem.W.fnOf "best" "best" (defArgs s_best) (defBody s_best) (defScope s_best) .none kV doc pm an cdv ct) ⟨us, []⟩ = pure ((["page", "count"] : List Str).zip us) := match us, hl with | [_, _], _ => rfl
theorem b_options_behind (kV doc pm : Value) (an : Option Addr) (cdv ct : Value) (us : List Value) (hl : us.length = (["page", "beginning"] : List Str).length) : bindArgs (PySem.W.fnOf "options_behind" "options_behind" (defArgs s_options_behind) (defBody s_options_behind) (defScope s_options_behind) .none kV doc pm an cdv ct) ⟨us, []⟩ = pure ((["page", "beginning"] : List Str).zip us) := match us, hl with | [_, _], _ => rfl
theorem b_greedy_slate (kV doc pm : Value) (an : Option Addr) (cdv ct : Value) (us : List Value) (hl : us.length = (["page"] : List Str).length) : bindArgs (PySem.W.fnOf "greedy_slate" "greedy_slate" (defArgs s_greedy_slate) (defBody s_greedy_slate) (defScope s_greedy_slate) .none kV doc pm an cdv ct) ⟨us, []⟩ = pure ((["page"] : List Str).zip us) := match us, hl with | [_], _ => rfl
theorem b_greedy (kV doc pm : Value) (an : Option Addr) (cdv ct : Value) (us : List Value) (hl : us.length = (["page"] : List Str).length) : bindArgs (PySem.W.fnOf "greedy" "greedy" (defArgs s_greedy) (defBody s_greedy) (defScope s_greedy) .none kV doc pm an cdv ct) ⟨us, []⟩ = pure ((["page"] : List Str).zip us) := match us, hl with | [_], _ => rfl
theorem b_cover (kV doc pm : Value) (an : Option Addr) (cdv ct : Value) (us : List Value) (hl : us.length = (["page", "count"] : List Str).length) : bindArgs (PySem.W.fnOf "cover" "cover" (defArgs s_cover) (defBody s_cover) (defScope s_cover) .none kV doc pm an cdv ct) ⟨us, []⟩ = pure ((["page", "count"] : List Str).zip us) := match us, hl with | [_, _], _ => rfl
theorem b_replaced (kV doc pm : Value) (an : Option Addr) (cdv ct : Value) (us : List Value) (hl : us.length = (["slate", "position", "candidate"] : List Str).length) : bindArgs (PySem.W.fnOf "replaced" "replaced" (defArgs s_replaced) (defBody s_replaced) (defScope s_replaced) .none kV doc pm an cdv ct) ⟨us, []⟩ = pure ((["slate", "position", "candidate"] : List Str).zip us) := match us, hl with | [_, _, _], _ => rfl
theorem b_exchanges (kV doc pm : Value) (an : Option Addr) (cdv ct : Value) (us : List Value) (hl : us.length = (["slate"] : List Str).length) : bindArgs (PySem.W.fnOf "exchanges" "exchanges" (defArgs s_exchanges) (defBody s_exchanges) (defScope s_exchanges) .none kV doc pm an cdv ct) ⟨us, []⟩ = pure ((["slate"] : List Str).zip us) := match us, hl with | [_], _ => rfl
theorem b_replacements (kV doc pm : Value) (an : Option Addr) (cdv ct : Value) (us : List Value) (hl : us.length = (["page", "slate"] : List Str).length) : bindArgs (PySem.W.fnOf "replacements" "replacements" (defArgs s_replacements) (defBody s_replacements) (defScope s_replacements) .none kV doc pm an cdv ct) ⟨us, []⟩ = pure ((["page", "slate"] : List Str).zip us) := match us, hl with | [_, _], _ => rfl
theorem b_first_better (kV doc pm : Value) (an : Option Addr) (cdv ct : Value) (us : List Value) (hl : us.length = (["page", "slate"] : List Str).length) : bindArgs (PySem.W.fnOf "first_better" "first_better" (defArgs s_first_better) (defBody s_first_better) (defScope s_first_better) .none kV doc pm an cdv ct) ⟨us, []⟩ = pure ((["page", "slate"] : List Str).zip us) := match us, hl with | [_, _], _ => rfl
theorem b_improve (kV doc pm : Value) (an : Option Addr) (cdv ct : Value) (us : List Value) (hl : us.length = (["page", "slate"] : List Str).length) : bindArgs (PySem.W.fnOf "improve" "improve" (defArgs s_improve) (defBody s_improve) (defScope s_improve) .none kV doc pm an cdv ct) ⟨us, []⟩ = pure ((["page", "slate"] : List Str).zip us) := match us, hl with | [_, _], _ => rfl
theorem b_set_creators (kV doc pm : Value) (an : Option Addr) (cdv ct : Value) (us : List Value) (hl : us.length = (["page", "limit", "spacing"] : List Str).length) : bindArgs (PySem.W.fnOf "set_creators" "set_creators" (defArgs s_set_creators) (defBody s_set_creators) (defScope s_set_creators) .none kV doc pm an cdv ct) ⟨us, []⟩ = pure ((["page", "limit", "spacing"] : List Str).zip us) := match us, hl with | [_, _, _], _ => rfl
theorem b_set_freshness (kV doc pm : Value) (an : Option Addr) (cdv ct : Value) (us : List Value) (hl : us.length = (["page", "age", "least"] : List Str).length) : bindArgs (PySem.W.fnOf "set_freshness" "set_freshness" (defArgs s_set_freshness) (defBody s_set_freshness) (defScope s_set_freshness) .none kV doc pm an cdv ct) ⟨us, []⟩ = pure ((["page", "age", "least"] : List Str).zip us) := match us, hl with | [_, _, _], _ => rfl
theorem b_set_diversity (kV doc pm : Value) (an : Option Addr) (cdv ct : Value) (us : List Value) (hl : us.length = (["page", "weight"] : List Str).length) : bindArgs (PySem.W.fnOf "set_diversity" "set_diversity" (defArgs s_set_diversity) (defBody s_set_diversity) (defScope s_set_diversity) .none kV doc pm an cdv ct) ⟨us, []⟩ = pure ((["page", "weight"] : List Str).zip us) := match us, hl with | [_, _], _ => rfl
theorem b_set_score (kV doc pm : Value) (an : Option Addr) (cdv ct : Value) (us : List Value) (hl : us.length = (["page", "candidate", "score"] : List Str).length) : bindArgs (PySem.W.fnOf "set_score" "set_score" (defArgs s_set_score) (defBody s_set_score) (defScope s_set_score) .none kV doc pm an cdv ct) ⟨us, []⟩ = pure ((["page", "candidate", "score"] : List Str).zip us) := match us, hl with | [_, _, _], _ => rfl
theorem b_set_quota (kV doc pm : Value) (an : Option Addr) (cdv ct : Value) (us : List Value) (hl : us.length = (["page", "group", "lower", "upper"] : List Str).length) : bindArgs (PySem.W.fnOf "set_quota" "set_quota" (defArgs s_set_quota) (defBody s_set_quota) (defScope s_set_quota) .none kV doc pm an cdv ct) ⟨us, []⟩ = pure ((["page", "group", "lower", "upper"] : List Str).zip us) := match us, hl with | [_, _, _, _], _ => rfl
theorem b_unpin (kV doc pm : Value) (an : Option Addr) (cdv ct : Value) (us : List Value) (hl : us.length = (["page", "position"] : List Str).length) : bindArgs (PySem.W.fnOf "unpin" "unpin" (defArgs s_unpin) (defBody s_unpin) (defScope s_unpin) .none kV doc pm an cdv ct) ⟨us, []⟩ = pure ((["page", "position"] : List Str).zip us) := match us, hl with | [_, _], _ => rfl
theorem b_ordered_pair (kV doc pm : Value) (an : Option Addr) (cdv ct : Value) (us : List Value) (hl : us.length = (["first", "second"] : List Str).length) : bindArgs (PySem.W.fnOf "ordered_pair" "ordered_pair" (defArgs s_ordered_pair) (defBody s_ordered_pair) (defScope s_ordered_pair) .none kV doc pm an cdv ct) ⟨us, []⟩ = pure ((["first", "second"] : List Str).zip us) := match us, hl with | [_, _], _ => rfl
theorem b_forbid (kV doc pm : Value) (an : Option Addr) (cdv ct : Value) (us : List Value) (hl : us.length = (["page", "first", "second"] : List Str).length) : bindArgs (PySem.W.fnOf "forbid" "forbid" (defArgs s_forbid) (defBody s_forbid) (defScope s_forbid) .none kV doc pm an cdv ct) ⟨us, []⟩ = pure ((["page", "first", "second"] : List Str).zip us) := match us, hl with | [_, _, _], _ => rfl
theorem b_allow (kV doc pm : Value) (an : Option Addr) (cdv ct : Value) (us : List Value) (hl : us.length = (["page", "first", "second"] : List Str).length) : bindArgs (PySem.W.fnOf "allow" "allow" (defArgs s_allow) (defBody s_allow) (defScope s_allow) .none kV doc pm an cdv ct) ⟨us, []⟩ = pure ((["page", "first", "second"] : List Str).zip us) := match us, hl with | [_, _, _], _ => rfl
theorem b_pin (kV doc pm : Value) (an : Option Addr) (cdv ct : Value) (us : List Value) (hl : us.length = (["page", "position", "candidate"] : List Str).length) : bindArgs (PySem.W.fnOf "pin" "pin" (defArgs s_pin) (defBody s_pin) (defScope s_pin) .none kV doc pm an cdv ct) ⟨us, []⟩ = pure ((["page", "position", "candidate"] : List Str).zip us) := match us, hl with | [_, _, _], _ => rfl
theorem b_add_candidate (kV doc pm : Value) (an : Option Addr) (cdv ct : Value) (us : List Value) (hl : us.length = (["page", "score", "group", "creator", "age", "topics"] : List Str).length) : bindArgs (PySem.W.fnOf "add_candidate" "add_candidate" (defArgs s_add_candidate) (defBody s_add_candidate) (defScope s_add_candidate) .none kV doc pm an cdv ct) ⟨us, []⟩ = pure ((["page", "score", "group", "creator", "age", "topics"] : List Str).zip us) := match us, hl with | [_, _, _, _, _, _], _ => rfl
theorem b_change (kV doc pm : Value) (an : Option Addr) (cdv ct : Value) (us : List Value) (hl : us.length = (["page", "number", "numbers", "row"] : List Str).length) : bindArgs (PySem.W.fnOf "change" "change" (defArgs s_change) (defBody s_change) (defScope s_change) .none kV doc pm an cdv ct) ⟨us, []⟩ = pure ((["page", "number", "numbers", "row"] : List Str).zip us) := match us, hl with | [_, _, _, _], _ => rfl
theorem b_Session_init (kV doc pm : Value) (an : Option Addr) (cdv ct : Value) (us : List Value) (hl : us.length = (["self"] : List Str).length) : bindArgs (PySem.W.fnOf "__init__" "Session.__init__" (defArgs s_Session___init__) (defBody s_Session___init__) (defScope s_Session___init__) .none kV doc pm an cdv ct) ⟨us, []⟩ = pure ((["self"] : List Str).zip us) := match us, hl with | [_], _ => rfl
theorem b_Session_create (kV doc pm : Value) (an : Option Addr) (cdv ct : Value) (us : List Value) (hl : us.length = (["self", "weights"] : List Str).length) : bindArgs (PySem.W.fnOf "create" "Session.create" (defArgs s_Session_create) (defBody s_Session_create) (defScope s_Session_create) .none kV doc pm an cdv ct) ⟨us, []⟩ = pure ((["self", "weights"] : List Str).zip us) := match us, hl with | [_, _], _ => rfl
theorem b_ask (kV doc pm : Value) (an : Option Addr) (cdv ct : Value) (us : List Value) (hl : us.length = (["page", "number", "numbers", "row"] : List Str).length) : bindArgs (PySem.W.fnOf "ask" "ask" (defArgs s_ask) (defBody s_ask) (defScope s_ask) .none kV doc pm an cdv ct) ⟨us, []⟩ = pure ((["page", "number", "numbers", "row"] : List Str).zip us) := match us, hl with | [_, _, _, _], _ => rfl
theorem b_Session_answer (kV doc pm : Value) (an : Option Addr) (cdv ct : Value) (us : List Value) (hl : us.length = (["self", "number", "numbers", "row"] : List Str).length) : bindArgs (PySem.W.fnOf "answer" "Session.answer" (defArgs s_Session_answer) (defBody s_Session_answer) (defScope s_Session_answer) .none kV doc pm an cdv ct) ⟨us, []⟩ = pure ((["self", "number", "numbers", "row"] : List Str).zip us) := match us, hl with | [_, _, _, _], _ => rfl
theorem b_split_calls (kV doc pm : Value) (an : Option Addr) (cdv ct : Value) (us : List Value) (hl : us.length = (["calls"] : List Str).length) : bindArgs (PySem.W.fnOf "split_calls" "split_calls" (defArgs s_split_calls) (defBody s_split_calls) (defScope s_split_calls) .none kV doc pm an cdv ct) ⟨us, []⟩ = pure ((["calls"] : List Str).zip us) := match us, hl with | [_], _ => rfl
theorem b_answers (kV doc pm : Value) (an : Option Addr) (cdv ct : Value) (us : List Value) (hl : us.length = (["calls"] : List Str).length) : bindArgs (PySem.W.fnOf "answers" "answers" (defArgs s_answers) (defBody s_answers) (defScope s_answers) .none kV doc pm an cdv ct) ⟨us, []⟩ = pure ((["calls"] : List Str).zip us) := match us, hl with | [_], _ => rfl
/-- what the top has written -/
structure Facts (P : Program) (w : World) (K : PySem.W.Frag) (mg : Str → Option Value) (CC CP CS cB cG cC PB PG PC : Addr) : Prop where
  T : Txt K mg CC CP CS
  n1 : PB ≠ PG
  n2 : PB ≠ PC
  n3 : PG ≠ PC
  F_weights_fit : FunAt K mg "weights_fit" s_weights_fit ["weights"]
  F_topics_fit : FunAt K mg "topics_fit" s_topics_fit ["topics"]
  F_candidate_fits : FunAt K mg "candidate_fits" s_candidate_fits ["score", "group", "creator", "age", "topics"]
  F_quota_fits : FunAt K mg "quota_fits" s_quota_fits ["group", "lower", "upper"]
  F_creators_fit : FunAt K mg "creators_fit" s_creators_fit ["limit", "spacing"]
  F_Page_has_candidate : MFunAt K CP "has_candidate" "Page.has_candidate" s_Page_has_candidate ["self", "candidate"]
  F_Page_has_position : MFunAt K CP "has_position" "Page.has_position" s_Page_has_position ["self", "position"]
  F_Page_is_beginning : MFunAt K CP "is_beginning" "Page.is_beginning" s_Page_is_beginning ["self", "listed"]
  F_Page_is_slate : MFunAt K CP "is_slate" "Page.is_slate" s_Page_is_slate ["self", "listed"]
  F_relevance_of : FunAt K mg "relevance_of" s_relevance_of ["page", "listed"]
  F_coverage_of : FunAt K mg "coverage_of" s_coverage_of ["page", "listed"]
  F_value_of : FunAt K mg "value_of" s_value_of ["page", "listed"]
  F_pin_violation : FunAt K mg "pin_violation" s_pin_violation ["page", "listed"]
  F_group_sizes : FunAt K mg "group_sizes" s_group_sizes ["page", "listed"]
  F_upper_quota_violation : FunAt K mg "upper_quota_violation" s_upper_quota_violation ["page", "listed"]
  F_lower_quota_violation : FunAt K mg "lower_quota_violation" s_lower_quota_violation ["page", "listed"]
  F_Page_is_pinned_elsewhere : MFunAt K CP "is_pinned_elsewhere" "Page.is_pinned_elsewhere" s_Page_is_pinned_elsewhere ["self", "candidate", "position"]
  F_creators_of : FunAt K mg "creators_of" s_creators_of ["page", "listed"]
  F_limit_violation : FunAt K mg "limit_violation" s_limit_violation ["page", "listed"]
  F_spacing_violation : FunAt K mg "spacing_violation" s_spacing_violation ["page", "listed"]
  F_forbidden_violation : FunAt K mg "forbidden_violation" s_forbidden_violation ["page", "listed"]
  F_freshness_violation : FunAt K mg "freshness_violation" s_freshness_violation ["page", "listed"]
  TT_first_violation : TupAt K mg "SLATE_CHECKS" (slateChks.map (·.1))
  F_first_violation : FunAt K mg "first_violation" s_first_violation ["page", "slate"]
  TT_is_possible : TupAt K mg "BEGINNING_CHECKS" (begChks.map (·.1))
  F_is_possible : FunAt K mg "is_possible" s_is_possible ["page", "beginning"]
  F_value : FunAt K mg "value" s_value ["page", "slate"]
  F_violation : FunAt K mg "violation" s_violation ["page", "slate"]
  F_gain : FunAt K mg "gain" s_gain ["page", "candidate", "beginning"]
  F_prices_fit : FunAt K mg "prices_fit" s_prices_fit ["prices"]
  F_tuning_fits : FunAt K mg "tuning_fits" s_tuning_fits ["size", "rounds"]
  F_position_part : FunAt K mg "position_part" s_position_part ["page", "prices"]
  F_quota_part : FunAt K mg "quota_part" s_quota_part ["page", "prices"]
  F_coverage_bound : FunAt K mg "coverage_bound" s_coverage_bound ["page"]
  F_bound_of : FunAt K mg "bound_of" s_bound_of ["page", "prices"]
  F_bound : FunAt K mg "bound" s_bound ["page", "prices"]
  F_tuned_group : FunAt K mg "tuned_group" s_tuned_group ["page", "prices", "group", "size"]
  F_tune : FunAt K mg "tune" s_tune ["page", "size", "rounds", "prices"]
  F_reduced : FunAt K mg "reduced" s_reduced ["part", "whole"]
  F_exposure : FunAt K mg "exposure" s_exposure ["page", "slate"]
  F_candidate_info : FunAt K mg "candidate_info" s_candidate_info ["page", "candidate"]
  F_status : FunAt K mg "status" s_status ["page"]
  F_is_feasible : FunAt K mg "is_feasible" s_is_feasible ["page", "slate"]
  TT_members_fit : TupAt K mg "MEMBER_CHECKS" (memChks.map (·.1))
  F_members_fit : FunAt K mg "members_fit" s_members_fit ["page", "listed"]
  F_choices_at : FunAt K mg "choices_at" s_choices_at ["page", "position"]
  F_lengthen : FunAt K mg "lengthen" s_lengthen ["page", "beginnings", "position"]
  F_arrangements : FunAt K mg "arrangements" s_arrangements ["page"]
  F_diversity_part : FunAt K mg "diversity_part" s_diversity_part ["page", "slate"]
  F_feasible_slates : FunAt K mg "feasible_slates" s_feasible_slates ["page"]
  F_Candidate_init : IFunAt K CC "Candidate.__init__" s_Candidate___init__ ["self", "score", "group", "creator", "age", "topics"]
  F_Page_init : IFunAt K CP "Page.__init__" s_Page___init__ ["self", "weights"]
  F_Page_relaxed : MFunAt K CP "relaxed" "Page.relaxed" s_Page_relaxed ["self", "kind"]
  F_greatest_value : FunAt K mg "greatest_value" s_greatest_value ["found"]
  F_count_feasible : FunAt K mg "count_feasible" s_count_feasible ["page"]
  F_gap : FunAt K mg "gap" s_gap ["page", "prices"]
  F_cost_of : FunAt K mg "cost_of" s_cost_of ["page", "kind"]
  F_worth : FunAt K mg "worth" s_worth ["page", "candidate"]
  F_best : FunAtC K mg "best" s_best ["page", "count"] cB
  F_options_behind : FunAt K mg "options_behind" s_options_behind ["page", "beginning"]
  F_greedy_slate : FunAtC K mg "greedy_slate" s_greedy_slate ["page"] cG
  F_greedy : FunAt K mg "greedy" s_greedy ["page"]
  F_cover : FunAtC K mg "cover" s_cover ["page", "count"] cC
  F_replaced : FunAt K mg "replaced" s_replaced ["slate", "position", "candidate"]
  F_exchanges : FunAt K mg "exchanges" s_exchanges ["slate"]
  F_replacements : FunAt K mg "replacements" s_replacements ["page", "slate"]
  F_first_better : FunAt K mg "first_better" s_first_better ["page", "slate"]
  F_improve : FunAt K mg "improve" s_improve ["page", "slate"]
  F_set_creators : FunAt K mg "set_creators" s_set_creators ["page", "limit", "spacing"]
  F_set_freshness : FunAt K mg "set_freshness" s_set_freshness ["page", "age", "least"]
  F_set_diversity : FunAt K mg "set_diversity" s_set_diversity ["page", "weight"]
  F_set_score : FunAt K mg "set_score" s_set_score ["page", "candidate", "score"]
  F_set_quota : FunAt K mg "set_quota" s_set_quota ["page", "group", "lower", "upper"]
  F_unpin : FunAt K mg "unpin" s_unpin ["page", "position"]
  F_ordered_pair : FunAt K mg "ordered_pair" s_ordered_pair ["first", "second"]
  F_forbid : FunAt K mg "forbid" s_forbid ["page", "first", "second"]
  F_allow : FunAt K mg "allow" s_allow ["page", "first", "second"]
  F_pin : FunAt K mg "pin" s_pin ["page", "position", "candidate"]
  F_add_candidate : FunAt K mg "add_candidate" s_add_candidate ["page", "score", "group", "creator", "age", "topics"]
  F_change : FunAt K mg "change" s_change ["page", "number", "numbers", "row"]
  F_Session_init : IFunAt K CS "Session.__init__" s_Session___init__ ["self"]
  F_Session_create : MFunAt K CS "create" "Session.create" s_Session_create ["self", "weights"]
  F_ask : FunAt K mg "ask" s_ask ["page", "number", "numbers", "row"]
  F_Session_answer : MFunAt K CS "answer" "Session.answer" s_Session_answer ["self", "number", "numbers", "row"]
  FA : FormsAt P w K mg
  F_split_calls : FunAt K mg "split_calls" s_split_calls ["calls"]
  F_answers : FunAt K mg "answers" s_answers ["calls"]
theorem top_ok {P : Program} {w : World} {K : PySem.W.Frag} {mg : Str → Option Value} {base : Heap} {CC CP CS cB cG cC PB PG PC : Addr} (Fa : Facts P w K mg CC CP CS cB cG cC PB PG PC) (TPB : TabB base mg cB PB) (TPG : TabB base mg cG PG) (TPC : TabB base mg cC PC) {f : Addr} {fd : FuncData} (FF : Fun K "answers" "answers" s_answers f fd) : FnOk P w K mg base CX0 12 f fd ["calls"] (spAns (tbs PB PG PC) K) := by
  have D_weights_fit : DefAt P w K mg base 1 "weights_fit" ["weights"] (spV (rWeights K)) := ok_weights_fit Fa.T Fa.F_weights_fit
  have D_topics_fit : DefAt P w K mg base 1 "topics_fit" ["topics"] (spV (rTopics K)) := ok_topics_fit Fa.T Fa.F_topics_fit
  have D_candidate_fits : DefAt P w K mg base 2 "candidate_fits" ["score", "group", "creator", "age", "topics"] (spV (rCandFits K)) := ok_candidate_fits Fa.T Fa.F_candidate_fits D_topics_fit
  have D_quota_fits : DefAt P w K mg base 1 "quota_fits" ["group", "lower", "upper"] (spV rQuotaFits) := ok_quota_fits Fa.T Fa.F_quota_fits
  have D_creators_fit : DefAt P w K mg base 1 "creators_fit" ["limit", "spacing"] (spV rCreatorsFit) := ok_creators_fit Fa.T Fa.F_creators_fit
  have D_Page_has_candidate : MethAt P w K mg base 1 CP "has_candidate" ["self", "candidate"] (spV (rHasC CC CP)) := ok_Page_has_candidate Fa.T Fa.F_Page_has_candidate
  have D_Page_has_position : MethAt P w K mg base 1 CP "has_position" ["self", "position"] (spV (rHasP CC CP)) := ok_Page_has_position Fa.T Fa.F_Page_has_position
  have D_Page_is_beginning : MethAt P w K mg base 2 CP "is_beginning" ["self", "listed"] (spV (rIsB K CC CP)) := ok_Page_is_beginning Fa.T Fa.F_Page_is_beginning D_Page_has_candidate
  have D_Page_is_slate : MethAt P w K mg base 3 CP "is_slate" ["self", "listed"] (spV (rIsS K CC CP)) := ok_Page_is_slate Fa.T Fa.F_Page_is_slate D_Page_is_beginning
  have D_relevance_of : DefAt P w K mg base 1 "relevance_of" ["page", "listed"] (spV (rRel K CC CP)) := ok_relevance_of Fa.T Fa.F_relevance_of
  have D_coverage_of : DefAt P w K mg base 1 "coverage_of" ["page", "listed"] (spV (rCov K CC CP)) := ok_coverage_of Fa.T Fa.F_coverage_of
  have D_value_of : DefAt P w K mg base 2 "value_of" ["page", "listed"] (spV (rVal K CC CP)) := ok_value_of Fa.T Fa.F_value_of D_relevance_of D_coverage_of
  have D_pin_violation : DefAt P w K mg base 1 "pin_violation" ["page", "listed"] (spL (rChk K CC CP pinV)) := ok_pin_violation Fa.T Fa.F_pin_violation
  have D_group_sizes : DefAt P w K mg base 1 "group_sizes" ["page", "listed"] (spL (rSizes K CC CP)) := ok_group_sizes Fa.T Fa.F_group_sizes
  have D_upper_quota_violation : DefAt P w K mg base 2 "upper_quota_violation" ["page", "listed"] (spL (rChk K CC CP Kp430.manyViolation)) := ok_upper_quota_violation Fa.T Fa.F_upper_quota_violation D_group_sizes
  have D_lower_quota_violation : DefAt P w K mg base 2 "lower_quota_violation" ["page", "listed"] (spL (rChk K CC CP Kp430.fewViolation)) := ok_lower_quota_violation Fa.T Fa.F_lower_quota_violation D_group_sizes
  have D_Page_is_pinned_elsewhere : MethAt P w K mg base 1 CP "is_pinned_elsewhere" ["self", "candidate", "position"] (spV (rPinE CC CP)) := ok_Page_is_pinned_elsewhere Fa.T Fa.F_Page_is_pinned_elsewhere
  have D_creators_of : DefAt P w K mg base 1 "creators_of" ["page", "listed"] (spL (rCrs K CC CP)) := ok_creators_of Fa.T Fa.F_creators_of
  have D_limit_violation : DefAt P w K mg base 2 "limit_violation" ["page", "listed"] (spL (rChk K CC CP Kp430.creatorViolation)) := ok_limit_violation Fa.T Fa.F_limit_violation D_creators_of
  have D_spacing_violation : DefAt P w K mg base 2 "spacing_violation" ["page", "listed"] (spL (rChk K CC CP Kp430.nearViolation)) := ok_spacing_violation Fa.T Fa.F_spacing_violation D_creators_of
  have D_forbidden_violation : DefAt P w K mg base 1 "forbidden_violation" ["page", "listed"] (spL (rChk K CC CP Kp430.pairViolation)) := ok_forbidden_violation Fa.T Fa.F_forbidden_violation
  have D_freshness_violation : DefAt P w K mg base 1 "freshness_violation" ["page", "listed"] (spL (rChk K CC CP Kp430.freshViolation)) := ok_freshness_violation Fa.T Fa.F_freshness_violation
  have D_first_violation : DefAt P w K mg base 3 "first_violation" ["page", "slate"] (spL (rFirst K CC CP)) := ok_first_violation Fa.T Fa.TT_first_violation Fa.F_first_violation (fun q hq => by
    simp only [slateChks, List.mem_cons, List.not_mem_nil, or_false] at hq
    rcases hq with rfl | rfl | rfl | rfl | rfl | rfl | rfl
    · exact D_pin_violation.mono (by decide)
    · exact D_upper_quota_violation
    · exact D_lower_quota_violation
    · exact D_limit_violation
    · exact D_spacing_violation
    · exact D_forbidden_violation.mono (by decide)
    · exact D_freshness_violation.mono (by decide))
  have D_is_possible : DefAt P w K mg base 3 "is_possible" ["page", "beginning"] (spV (rPoss K CC CP)) := ok_is_possible Fa.T Fa.TT_is_possible Fa.F_is_possible (fun q hq => by
    simp only [begChks, List.mem_cons, List.not_mem_nil, or_false] at hq
    rcases hq with rfl | rfl | rfl | rfl | rfl
    · exact D_pin_violation.mono (by decide)
    · exact D_upper_quota_violation
    · exact D_limit_violation
    · exact D_spacing_violation
    · exact D_forbidden_violation.mono (by decide))
  have D_value : DefAt P w K mg base 4 "value" ["page", "slate"] (spL (rValue K CC CP)) := ok_value Fa.T Fa.F_value D_Page_is_slate D_value_of D_relevance_of D_coverage_of
  have D_violation : DefAt P w K mg base 4 "violation" ["page", "slate"] (spL (rViolation K CC CP)) := ok_violation Fa.T Fa.F_violation D_Page_is_slate D_first_violation
  have D_gain : DefAt P w K mg base 4 "gain" ["page", "candidate", "beginning"] (spL (rGain K CC CP)) := ok_gain Fa.T Fa.F_gain D_Page_has_candidate D_Page_is_beginning D_value_of D_coverage_of D_is_possible
  have D_prices_fit : DefAt P w K mg base 1 "prices_fit" ["prices"] (spV (rPricesFit K)) := ok_prices_fit Fa.T Fa.F_prices_fit
  have D_tuning_fits : DefAt P w K mg base 1 "tuning_fits" ["size", "rounds"] (spV rTuningFits) := ok_tuning_fits Fa.T Fa.F_tuning_fits
  have D_position_part : DefAt P w K mg base 1 "position_part" ["page", "prices"] (spV (rPrc K CC CP fun p ns => (Kp430.positionBounds p ns).sum)) := ok_position_part Fa.T Fa.F_position_part
  have D_quota_part : DefAt P w K mg base 1 "quota_part" ["page", "prices"] (spV (rPrc K CC CP Kp430.quotaBounds)) := ok_quota_part Fa.T Fa.F_quota_part
  have D_coverage_bound : DefAt P w K mg base 2 "coverage_bound" ["page"] (spV (rPg CC CP fun p => nV (Kp430.coverageBound p))) := ok_coverage_bound Fa.T Fa.F_coverage_bound D_coverage_of
  have D_bound_of : DefAt P w K mg base 3 "bound_of" ["page", "prices"] (spV (rPrc K CC CP Kp430.bound)) := ok_bound_of Fa.T Fa.F_bound_of D_position_part D_quota_part D_coverage_bound
  have D_bound : DefAt P w K mg base 4 "bound" ["page", "prices"] (spL (rBound K CC CP)) := ok_bound Fa.T Fa.F_bound D_prices_fit D_position_part D_quota_part D_coverage_bound D_bound_of
  have D_tuned_group : DefAt P w K mg base 4 "tuned_group" ["page", "prices", "group", "size"] (spK (rTuned K CC CP)) := ok_tuned_group Fa.T Fa.F_tuned_group D_bound_of
  have D_tune : DefAt P w K mg base 5 "tune" ["page", "size", "rounds", "prices"] (spL (rTune K CC CP)) := ok_tune Fa.T Fa.F_tune D_prices_fit D_tuning_fits D_bound_of D_tuned_group
  have D_reduced : DefAt P w K mg base 1 "reduced" ["part", "whole"] (spL rReduced) := ok_reduced Fa.T Fa.F_reduced
  have D_exposure : DefAt P w K mg base 4 "exposure" ["page", "slate"] (spL (rSlateQ K CC CP .exposure)) := ok_exposure Fa.T Fa.F_exposure D_Page_is_slate D_reduced
  have D_candidate_info : DefAt P w K mg base 2 "candidate_info" ["page", "candidate"] (spL (rInfo CC CP)) := ok_candidate_info Fa.T Fa.F_candidate_info D_Page_has_candidate
  have D_status : DefAt P w K mg base 1 "status" ["page"] (spL (rStatus CC CP)) := ok_status Fa.T Fa.F_status
  have D_is_feasible : DefAt P w K mg base 4 "is_feasible" ["page", "slate"] (spV (rFeas K CC CP)) := ok_is_feasible Fa.T Fa.F_is_feasible D_first_violation
  have D_members_fit : DefAt P w K mg base 3 "members_fit" ["page", "listed"] (spV (rFits K CC CP)) := ok_members_fit Fa.T Fa.TT_members_fit Fa.F_members_fit (fun q hq => by
    simp only [memChks, List.mem_cons, List.not_mem_nil, or_false] at hq
    rcases hq with rfl | rfl | rfl | rfl | rfl
    · exact D_upper_quota_violation
    · exact D_lower_quota_violation
    · exact D_limit_violation
    · exact D_forbidden_violation.mono (by decide)
    · exact D_freshness_violation.mono (by decide))
  have D_choices_at : DefAt P w K mg base 1 "choices_at" ["page", "position"] (spL (rChoice CC CP)) := ok_choices_at Fa.T Fa.F_choices_at
  have D_lengthen : DefAt P w K mg base 2 "lengthen" ["page", "beginnings", "position"] (spLen CC CP) := ok_lengthen Fa.T Fa.F_lengthen D_choices_at D_creators_of
  have D_arrangements : DefAt P w K mg base 3 "arrangements" ["page"] (spArr CC CP) := ok_arrangements Fa.T Fa.F_arrangements D_lengthen
  have D_diversity_part : DefAt P w K mg base 4 "diversity_part" ["page", "slate"] (spV (rPart K CC CP)) := ok_diversity_part Fa.T Fa.F_diversity_part D_members_fit D_coverage_of
  have D_feasible_slates : DefAt P w K mg base 5 "feasible_slates" ["page"] (spFound CC CP) := ok_feasible_slates Fa.T Fa.F_feasible_slates D_arrangements D_diversity_part
  have D_Candidate : MakeAt P w K mg base 1 CC ["self", "score", "group", "creator", "age", "topics"] (spCInit CC) := ok_Candidate_init Fa.T Fa.F_Candidate_init
  have D_Page : MakeAt P w K mg base 1 CP ["self", "weights"] (spPInit CC CP) := ok_Page_init Fa.T Fa.F_Page_init
  have D_Page_relaxed : MethAt P w K mg base 3 CP "relaxed" ["self", "kind"] (spRelax CC CP) := ok_Page_relaxed Fa.T Fa.F_Page_relaxed D_Page
  have D_greatest_value : DefAt P w K mg base 1 "greatest_value" ["found"] (spV (rGreatest K)) := ok_greatest_value Fa.T Fa.F_greatest_value
  have D_count_feasible : DefAt P w K mg base 6 "count_feasible" ["page"] (spL (rPgA CC CP .countFeasible)) := ok_count_feasible Fa.T Fa.F_count_feasible D_feasible_slates
  have D_gap : DefAt P w K mg base 6 "gap" ["page", "prices"] (spL (rGap K CC CP)) := ok_gap Fa.T Fa.F_gap D_prices_fit D_feasible_slates D_greatest_value D_bound_of
  have D_cost_of : DefAt P w K mg base 6 "cost_of" ["page", "kind"] (spL (rNum CC CP .costOf)) := ok_cost_of Fa.T Fa.F_cost_of D_feasible_slates D_greatest_value D_Page_relaxed
  have D_worth : DefAt P w K mg base 6 "worth" ["page", "candidate"] (spL (rNum CC CP .worth)) := ok_worth Fa.T Fa.F_worth D_feasible_slates D_greatest_value D_Page_has_candidate
  have D_best : DefAt P w K mg base 6 "best" ["page", "count"] (spLT (tbs PB PG PC) (rNum CC CP .best)) := ok_best Fa.T Fa.F_best TPB (.head _) (hu_best Fa.n1 Fa.n2 Fa.n3) D_feasible_slates
  have D_options_behind : DefAt P w K mg base 4 "options_behind" ["page", "beginning"] (spL (rOpts K CC CP)) := ok_options_behind Fa.T Fa.F_options_behind D_Page_is_pinned_elsewhere D_is_possible
  have D_greedy_slate : DefAt P w K mg base 6 "greedy_slate" ["page"] (spLT (tbs PB PG PC) (rGreedyS CC CP)) := ok_greedy_slate Fa.T Fa.F_greedy_slate TPG (.tail _ (.head _)) (hu_greedy_slate Fa.n1 Fa.n2 Fa.n3) D_options_behind D_value_of
  have D_greedy : DefAt P w K mg base 7 "greedy" ["page"] (spLT (tbs PB PG PC) (rPgA CC CP .greedy)) := ok_greedy Fa.T Fa.F_greedy D_greedy_slate D_Page_is_slate D_is_feasible D_value_of
  have D_cover : DefAt P w K mg base 5 "cover" ["page", "count"] (spLT (tbs PB PG PC) (rNum CC CP .cover)) := ok_cover Fa.T Fa.F_cover TPC (.tail _ (.tail _ (.head _))) (hu_cover Fa.n1 Fa.n2 Fa.n3) D_coverage_of
  have D_replaced : DefAt P w K mg base 1 "replaced" ["slate", "position", "candidate"] (spL (rReplaced K)) := ok_replaced Fa.T Fa.F_replaced
  have D_exchanges : DefAt P w K mg base 2 "exchanges" ["slate"] (spE (rExch K)) := ok_exchanges Fa.T Fa.F_exchanges D_replaced
  have D_replacements : DefAt P w K mg base 2 "replacements" ["page", "slate"] (spE (rRepl K CC CP)) := ok_replacements Fa.T Fa.F_replacements D_replaced
  have D_first_better : DefAt P w K mg base 5 "first_better" ["page", "slate"] (spBetter K CC CP) := ok_first_better Fa.T Fa.F_first_better D_value_of D_exchanges D_replacements D_is_feasible
  have D_improve : DefAt P w K mg base 6 "improve" ["page", "slate"] (spL (rSlateQ K CC CP .improve)) := ok_improve Fa.T Fa.F_improve D_Page_is_slate D_is_feasible D_first_better D_value_of
  have D_set_creators : DefAt P w K mg base 2 "set_creators" ["page", "limit", "spacing"] (spM CC CP cCreators) := ok_set_creators Fa.T Fa.F_set_creators D_creators_fit
  have D_set_freshness : DefAt P w K mg base 2 "set_freshness" ["page", "age", "least"] (spM CC CP cFreshness) := ok_set_freshness Fa.T Fa.F_set_freshness
  have D_set_diversity : DefAt P w K mg base 2 "set_diversity" ["page", "weight"] (spM CC CP cDiversity) := ok_set_diversity Fa.T Fa.F_set_diversity
  have D_set_score : DefAt P w K mg base 2 "set_score" ["page", "candidate", "score"] (spM CC CP cScore) := ok_set_score Fa.T Fa.F_set_score D_Page_has_candidate
  have D_set_quota : DefAt P w K mg base 2 "set_quota" ["page", "group", "lower", "upper"] (spM CC CP cQuota) := ok_set_quota Fa.T Fa.F_set_quota D_quota_fits
  have D_unpin : DefAt P w K mg base 2 "unpin" ["page", "position"] (spM CC CP cUnpin) := ok_unpin Fa.T Fa.F_unpin D_Page_has_position
  have D_ordered_pair : DefAt P w K mg base 1 "ordered_pair" ["first", "second"] (spU rPair) := ok_ordered_pair Fa.T Fa.F_ordered_pair
  have D_forbid : DefAt P w K mg base 2 "forbid" ["page", "first", "second"] (spM CC CP (cPairs .forbid)) := ok_forbid Fa.T Fa.F_forbid D_Page_has_candidate D_ordered_pair
  have D_allow : DefAt P w K mg base 2 "allow" ["page", "first", "second"] (spM CC CP (cPairs .allow)) := ok_allow Fa.T Fa.F_allow D_Page_has_candidate D_ordered_pair
  have D_pin : DefAt P w K mg base 2 "pin" ["page", "position", "candidate"] (spM CC CP cPin) := ok_pin Fa.T Fa.F_pin D_Page_has_candidate D_Page_has_position D_Page_is_pinned_elsewhere
  have D_add_candidate : DefAt P w K mg base 3 "add_candidate" ["page", "score", "group", "creator", "age", "topics"] (spM CC CP cAdd) := ok_add_candidate Fa.T Fa.F_add_candidate D_candidate_fits D_Candidate
  have D_change : DefAt P w K mg base 4 "change" ["page", "number", "numbers", "row"] (spM CC CP cChange) := ok_change Fa.T Fa.F_change D_add_candidate D_set_score D_set_quota D_set_creators D_set_freshness D_set_diversity D_forbid D_allow D_pin D_unpin
  have D_Session : MakeAt P w K mg base 1 CS ["self"] (spSInit CS) := ok_Session_init Fa.T Fa.F_Session_init
  have D_Session_create : MethAt P w K mg base 3 CS "create" ["self", "weights"] (spCreate CC CP CS) := ok_Session_create Fa.T Fa.F_Session_create D_weights_fit D_Page
  have D_ask : DefAt P w K mg base 9 "ask" ["page", "number", "numbers", "row"] (spLT (tbs PB PG PC) (rAsk K CC CP)) := ok_ask Fa.T Fa.F_ask D_value D_violation D_gain D_greedy D_improve D_best D_count_feasible D_bound D_tune D_gap D_exposure D_cover D_cost_of D_worth D_candidate_info D_status
  have D_Session_answer : MethAt P w K mg base 10 CS "answer" ["self", "number", "numbers", "row"] (spAnswer (tbs PB PG PC) CC CP CS) := ok_Session_answer Fa.T Fa.F_Session_answer D_Session_create D_change D_ask
  have D_split_calls : DefAt P w K mg base 1 "split_calls" ["calls"] (spSplit K) := ok_split_calls Fa.T Fa.FA Fa.F_split_calls
  have D_answers : FnOk P w K mg base CX0 12 f fd ["calls"] (spAns (tbs PB PG PC) K) := run_answers Fa.T FF D_Session D_split_calls D_Session_answer
  exact D_answers
/-- the whole, as the walk asks for it -/
theorem fin {P : Program} {w : World} {K : PySem.W.Frag} {h : Heap} {mg : Str → Option Value} {fa CC CP CS cB cG cC PB PG PC : Addr} (X : K.In h) (G : h.Ns mainGlobals mg) (hfa : mg "answers" = some (.ref fa)) (aC : PySem.W.nsIn K mainGlobals "Candidate" = some (some (.ref CC))) (aP : PySem.W.nsIn K mainGlobals "Page" = some (some (.ref CP)))
    (aS : PySem.W.nsIn K mainGlobals "Session" = some (some (.ref CS))) (Fa : Facts P w K mg CC CP CS cB cG cC PB PG PC) :
    ∃ fd : FuncData, (∀ (s : Shared) (us : List Value), us.length = (["calls"] : List Str).length → BindsTo s fd ⟨us, []⟩ ((["calls"] : List Str).zip us)) ∧ ∀ base : Heap, K.In base → base.Ns mainGlobals mg → (∀ p ∈ [(cB, PB), (cG, PG), (cC, PC)], TabB base mg p.1 p.2) → FnOk P w K mg base CX0 12 fa fd ["calls"] (spAns (tbs PB PG PC) K) := by
  obtain ⟨f, fd, F, hm, hb⟩ := Fa.F_answers.ex
  rw [hfa] at hm
  cases hm
  obtain ⟨oc, od, kV, doc, pm, an, cdv, ct, osl, rfl, lk, hcd⟩ := F.ex
  exact ⟨_, fun s us hu => .of_eq (b_answers kV doc pm an cdv ct us hu), fun base _ _ hT => top_ok (base := base) Fa (hT (cB, PB) (.head _)) (hT (cG, PG) (.tail _ (.head _))) (hT (cC, PC) (.tail _ (.tail _ (.head _)))) F⟩
end Ps
end

section
open PySem PySem.W PyProof.Rows
set_option maxRecDepth 100000 in
set_option maxHeartbeats 8000000 in
theorem PySem.Challenge.cw_pageslates_s01_answers_holds : PySem.Challenge.rw_pageslates_s01_answers.Holds := by
  refine ps_head ?_
  k_fillS
  refine Ps.walk_specT (r := PySem.Challenge.rw_pageslates_s01_answers) (k := 12) (CX := L2.CX0) (ps := ["calls"]) (sp := Ps.spAns (Ps.tbs 313 225 270)) (cs := [(317, 313), (227, 225), (272, 270)]) (by decide +kernel) rfl rfl ⟨rfl, by decide, by decide⟩ (fun w h Y => PySem.W.kIn_of Y) ?psC ?psN ?psF ?psS (fun _ _ _ _ z => z)
  case psC =>
    intro w lo mean mg mb h T X
    exact List.forall_mem_cons.mpr ⟨tab_of (x := "best") (c := 317) (P := 313) T X rfl (by kernel_rfl), List.forall_mem_cons.mpr ⟨tab_of (x := "greedy_slate") (c := 227) (P := 225) T X rfl (by kernel_rfl), List.forall_mem_cons.mpr ⟨tab_of (x := "cover") (c := 272) (P := 270) T X rfl (by kernel_rfl), fun _ h => nomatch h⟩⟩⟩
  case psN =>
    intro w
    exact List.forall_mem_cons.mpr ⟨by kernel_rfl, List.forall_mem_cons.mpr ⟨by kernel_rfl, List.forall_mem_cons.mpr ⟨by kernel_rfl, fun _ h => nomatch h⟩⟩⟩
  case psF =>
    intro w mg fa h Y KX G hmg
    refine' Ps.fin (cB := 317) (cG := 227) (cC := 272) (PB := 313) (PG := 225) (PC := 270) KX G hmg ?aC ?aP ?aS ?fa
    (case aC => k_is); (case aP => k_is); (case aS => k_is)
    case fa =>
      refine' ⟨?T, by decide, by decide, by decide, ?F_weights_fit, ?F_topics_fit, ?F_candidate_fits, ?F_quota_fits, ?F_creators_fit, ?F_Page_has_candidate, ?F_Page_has_position, ?F_Page_is_beginning, ?F_Page_is_slate, ?F_relevance_of, ?F_coverage_of, ?F_value_of, ?F_pin_violation, ?F_group_sizes, ?F_upper_quota_violation, ?F_lower_quota_violation, ?F_Page_is_pinned_elsewhere, ?F_creators_of, ?F_limit_violation, ?F_spacing_violation, ?F_forbidden_violation, ?F_freshness_violation, ?TT_first_violation, ?F_first_violation, ?TT_is_possible, ?F_is_possible, ?F_value, ?F_violation, ?F_gain, ?F_prices_fit, ?F_tuning_fits, ?F_position_part, ?F_quota_part, ?F_coverage_bound, ?F_bound_of, ?F_bound, ?F_tuned_group, ?F_tune, ?F_reduced, ?F_exposure, ?F_candidate_info, ?F_status, ?F_is_feasible, ?TT_members_fit, ?F_members_fit, ?F_choices_at, ?F_lengthen, ?F_arrangements, ?F_diversity_part, ?F_feasible_slates, ?F_Candidate_init, ?F_Page_init, ?F_Page_relaxed, ?F_greatest_value, ?F_count_feasible, ?F_gap, ?F_cost_of, ?F_worth, ?F_best, ?F_options_behind, ?F_greedy_slate, ?F_greedy, ?F_cover, ?F_replaced, ?F_exchanges, ?F_replacements, ?F_first_better, ?F_improve, ?F_set_creators, ?F_set_freshness, ?F_set_diversity, ?F_set_score, ?F_set_quota, ?F_unpin, ?F_ordered_pair, ?F_forbid, ?F_allow, ?F_pin, ?F_add_candidate, ?F_change, ?F_Session_init, ?F_Session_create, ?F_ask, ?F_Session_answer, ?FA, ?F_split_calls, ?F_answers⟩
      case T =>
        refine' ⟨?len, ?all, ?zip, ?range, ?enumerate, ?sum, ?min, ?max, ?int, ?list, ?set, ?sorted, ?NO_PAGE, ?NO_CANDIDATE, ?OUTSIDE_LIMITS, ?ALREADY_THERE, ?TOO_MANY_CANDIDATES, ?NOT_THERE, ?MOST_POSITIONS, ?MOST_CANDIDATES, ?GROUP_COUNT, ?TOPIC_COUNT, ?GREATEST_WEIGHT, ?GREATEST_SCORE, ?GREATEST_CREATOR, ?GREATEST_AGE, ?GREATEST_QUOTA, ?GREATEST_LIMIT, ?GREATEST_SPACING, ?GREATEST_DIVERSITY, ?MOST_BEST, ?LEAST_PRICE, ?GREATEST_PRICE, ?GREATEST_SIZE, ?MOST_ROUNDS, ?GREATEST_KIND, ?MOST_CHANGES, ?CREATE, ?LAST_CHANGE, ?cCandidate, ?cPage, ?cSession, ?gCandidate, ?gPage, ?gSession, ?nP_weights, ?nP_candidates, ?nP_quotas, ?nP_limit, ?nP_spacing, ?nP_fresh_age, ?nP_fresh_least, ?nP_diversity, ?nP_forbidden, ?nP_pins, ?nC_score, ?nC_group, ?nC_creator, ?nC_age, ?nC_topics, ?nS_page⟩
        (case len => refine' PySem.W.mg_none_of KX G ?z; (case z => k_is))
        (case all => refine' PySem.W.mg_none_of KX G ?z; (case z => k_is))
        (case zip => refine' PySem.W.mg_none_of KX G ?z; (case z => k_is))
        (case range => refine' PySem.W.mg_none_of KX G ?z; (case z => k_is))
        (case enumerate => refine' PySem.W.mg_none_of KX G ?z; (case z => k_is))
        (case sum => refine' PySem.W.mg_none_of KX G ?z; (case z => k_is))
        (case min => refine' PySem.W.mg_none_of KX G ?z; (case z => k_is))
        (case max => refine' PySem.W.mg_none_of KX G ?z; (case z => k_is))
        (case int => refine' PySem.W.mg_none_of KX G ?z; (case z => k_is))
        (case list => refine' PySem.W.mg_none_of KX G ?z; (case z => k_is))
        (case set => refine' PySem.W.mg_none_of KX G ?z; (case z => k_is))
        (case sorted => refine' PySem.W.mg_none_of KX G ?z; (case z => k_is))
        (case NO_PAGE => refine' Ps.gint_at KX G ?z; (case z => k_is))
        (case NO_CANDIDATE => refine' Ps.gint_at KX G ?z; (case z => k_is))
        (case OUTSIDE_LIMITS => refine' Ps.gint_at KX G ?z; (case z => k_is))
        (case ALREADY_THERE => refine' Ps.gint_at KX G ?z; (case z => k_is))
        (case TOO_MANY_CANDIDATES => refine' Ps.gint_at KX G ?z; (case z => k_is))
        (case NOT_THERE => refine' Ps.gint_at KX G ?z; (case z => k_is))
        (case MOST_POSITIONS => refine' Ps.gint_at KX G ?z; (case z => k_is))
        (case MOST_CANDIDATES => refine' Ps.gint_at KX G ?z; (case z => k_is))
        (case GROUP_COUNT => refine' Ps.gint_at KX G ?z; (case z => k_is))
        (case TOPIC_COUNT => refine' Ps.gint_at KX G ?z; (case z => k_is))
        (case GREATEST_WEIGHT => refine' Ps.gint_at KX G ?z; (case z => k_is))
        (case GREATEST_SCORE => refine' Ps.gint_at KX G ?z; (case z => k_is))
        (case GREATEST_CREATOR => refine' Ps.gint_at KX G ?z; (case z => k_is))
        (case GREATEST_AGE => refine' Ps.gint_at KX G ?z; (case z => k_is))
        (case GREATEST_QUOTA => refine' Ps.gint_at KX G ?z; (case z => k_is))
        (case GREATEST_LIMIT => refine' Ps.gint_at KX G ?z; (case z => k_is))
        (case GREATEST_SPACING => refine' Ps.gint_at KX G ?z; (case z => k_is))
        (case GREATEST_DIVERSITY => refine' Ps.gint_at KX G ?z; (case z => k_is))
        (case MOST_BEST => refine' Ps.gint_at KX G ?z; (case z => k_is))
        (case LEAST_PRICE => refine' Ps.gint_at KX G ?z; (case z => k_is))
        (case GREATEST_PRICE => refine' Ps.gint_at KX G ?z; (case z => k_is))
        (case GREATEST_SIZE => refine' Ps.gint_at KX G ?z; (case z => k_is))
        (case MOST_ROUNDS => refine' Ps.gint_at KX G ?z; (case z => k_is))
        (case GREATEST_KIND => refine' Ps.gint_at KX G ?z; (case z => k_is))
        (case MOST_CHANGES => refine' Ps.gint_at KX G ?z; (case z => k_is))
        (case CREATE => refine' Ps.gint_at KX G ?z; (case z => k_is))
        (case LAST_CHANGE => refine' Ps.gint_at KX G ?z; (case z => k_is))
        (case cCandidate => refine' ⟨?z1, ?z2, ?z3, ?z4⟩; (case z1 => k_is); (case z2 => k_is); (case z3 => k_is); (case z4 => k_is))
        (case cPage => refine' ⟨?z1, ?z2, ?z3, ?z4⟩; (case z1 => k_is); (case z2 => k_is); (case z3 => k_is); (case z4 => k_is))
        (case cSession => refine' ⟨?z1, ?z2, ?z3, ?z4⟩; (case z1 => k_is); (case z2 => k_is); (case z3 => k_is); (case z4 => k_is))
        (case gCandidate => refine' PySem.W.mg_of KX G ?z; (case z => k_is))
        (case gPage => refine' PySem.W.mg_of KX G ?z; (case z => k_is))
        (case gSession => refine' PySem.W.mg_of KX G ?z; (case z => k_is))
        (case nP_weights => unfold L2.NoAttr; k_is)
        (case nP_candidates => unfold L2.NoAttr; k_is)
        (case nP_quotas => unfold L2.NoAttr; k_is)
        (case nP_limit => unfold L2.NoAttr; k_is)
        (case nP_spacing => unfold L2.NoAttr; k_is)
        (case nP_fresh_age => unfold L2.NoAttr; k_is)
        (case nP_fresh_least => unfold L2.NoAttr; k_is)
        (case nP_diversity => unfold L2.NoAttr; k_is)
        (case nP_forbidden => unfold L2.NoAttr; k_is)
        (case nP_pins => unfold L2.NoAttr; k_is)
        (case nC_score => unfold L2.NoAttr; k_is)
        (case nC_group => unfold L2.NoAttr; k_is)
        (case nC_creator => unfold L2.NoAttr; k_is)
        (case nC_age => unfold L2.NoAttr; k_is)
        (case nC_topics => unfold L2.NoAttr; k_is)
        (case nS_page => unfold L2.NoAttr; k_is)
      (case F_weights_fit => refine' Ps.fun_at KX G Ps.b_weights_fit ?a ?l ?c ?k; (case a => k_is); (case l => k_is); (case c => k_is); (case k => k_is))
      (case F_topics_fit => refine' Ps.fun_at KX G Ps.b_topics_fit ?a ?l ?c ?k; (case a => k_is); (case l => k_is); (case c => k_is); (case k => k_is))
      (case F_candidate_fits => refine' Ps.fun_at KX G Ps.b_candidate_fits ?a ?l ?c ?k; (case a => k_is); (case l => k_is); (case c => k_is); (case k => k_is))
      (case F_quota_fits => refine' Ps.fun_at KX G Ps.b_quota_fits ?a ?l ?c ?k; (case a => k_is); (case l => k_is); (case c => k_is); (case k => k_is))
      (case F_creators_fit => refine' Ps.fun_at KX G Ps.b_creators_fit ?a ?l ?c ?k; (case a => k_is); (case l => k_is); (case c => k_is); (case k => k_is))
      (case F_Page_has_candidate => refine' Ps.mfun_at Ps.b_Page_has_candidate ?a ?i ?l ?c ?k; (case a => k_is); (case i => k_is); (case l => k_is); (case c => k_is); (case k => k_is))
      (case F_Page_has_position => refine' Ps.mfun_at Ps.b_Page_has_position ?a ?i ?l ?c ?k; (case a => k_is); (case i => k_is); (case l => k_is); (case c => k_is); (case k => k_is))
      (case F_Page_is_beginning => refine' Ps.mfun_at Ps.b_Page_is_beginning ?a ?i ?l ?c ?k; (case a => k_is); (case i => k_is); (case l => k_is); (case c => k_is); (case k => k_is))
      (case F_Page_is_slate => refine' Ps.mfun_at Ps.b_Page_is_slate ?a ?i ?l ?c ?k; (case a => k_is); (case i => k_is); (case l => k_is); (case c => k_is); (case k => k_is))
      (case F_relevance_of => refine' Ps.fun_at KX G Ps.b_relevance_of ?a ?l ?c ?k; (case a => k_is); (case l => k_is); (case c => k_is); (case k => k_is))
      (case F_coverage_of => refine' Ps.fun_at KX G Ps.b_coverage_of ?a ?l ?c ?k; (case a => k_is); (case l => k_is); (case c => k_is); (case k => k_is))
      (case F_value_of => refine' Ps.fun_at KX G Ps.b_value_of ?a ?l ?c ?k; (case a => k_is); (case l => k_is); (case c => k_is); (case k => k_is))
      (case F_pin_violation => refine' Ps.fun_at KX G Ps.b_pin_violation ?a ?l ?c ?k; (case a => k_is); (case l => k_is); (case c => k_is); (case k => k_is))
      (case F_group_sizes => refine' Ps.fun_at KX G Ps.b_group_sizes ?a ?l ?c ?k; (case a => k_is); (case l => k_is); (case c => k_is); (case k => k_is))
      (case F_upper_quota_violation => refine' Ps.fun_at KX G Ps.b_upper_quota_violation ?a ?l ?c ?k; (case a => k_is); (case l => k_is); (case c => k_is); (case k => k_is))
      (case F_lower_quota_violation => refine' Ps.fun_at KX G Ps.b_lower_quota_violation ?a ?l ?c ?k; (case a => k_is); (case l => k_is); (case c => k_is); (case k => k_is))
      (case F_Page_is_pinned_elsewhere => refine' Ps.mfun_at Ps.b_Page_is_pinned_elsewhere ?a ?i ?l ?c ?k; (case a => k_is); (case i => k_is); (case l => k_is); (case c => k_is); (case k => k_is))
      (case F_creators_of => refine' Ps.fun_at KX G Ps.b_creators_of ?a ?l ?c ?k; (case a => k_is); (case l => k_is); (case c => k_is); (case k => k_is))
      (case F_limit_violation => refine' Ps.fun_at KX G Ps.b_limit_violation ?a ?l ?c ?k; (case a => k_is); (case l => k_is); (case c => k_is); (case k => k_is))
      (case F_spacing_violation => refine' Ps.fun_at KX G Ps.b_spacing_violation ?a ?l ?c ?k; (case a => k_is); (case l => k_is); (case c => k_is); (case k => k_is))
      (case F_forbidden_violation => refine' Ps.fun_at KX G Ps.b_forbidden_violation ?a ?l ?c ?k; (case a => k_is); (case l => k_is); (case c => k_is); (case k => k_is))
      (case F_freshness_violation => refine' Ps.fun_at KX G Ps.b_freshness_violation ?a ?l ?c ?k; (case a => k_is); (case l => k_is); (case c => k_is); (case k => k_is))
      (case TT_first_violation => refine' Ps.tup_at7 KX G (x0 := "pin_violation") (x1 := "upper_quota_violation") (x2 := "lower_quota_violation") (x3 := "limit_violation") (x4 := "spacing_violation") (x5 := "forbidden_violation") (x6 := "freshness_violation") ?a ?l ?n0 ?n1 ?n2 ?n3 ?n4 ?n5 ?n6; (case a => k_is); (case l => k_is); (case n0 => k_is); (case n1 => k_is); (case n2 => k_is); (case n3 => k_is); (case n4 => k_is); (case n5 => k_is); (case n6 => k_is))
      (case F_first_violation => refine' Ps.fun_at KX G Ps.b_first_violation ?a ?l ?c ?k; (case a => k_is); (case l => k_is); (case c => k_is); (case k => k_is))
      (case TT_is_possible => refine' Ps.tup_at5 KX G (x0 := "pin_violation") (x1 := "upper_quota_violation") (x2 := "limit_violation") (x3 := "spacing_violation") (x4 := "forbidden_violation") ?a ?l ?n0 ?n1 ?n2 ?n3 ?n4; (case a => k_is); (case l => k_is); (case n0 => k_is); (case n1 => k_is); (case n2 => k_is); (case n3 => k_is); (case n4 => k_is))
      (case F_is_possible => refine' Ps.fun_at KX G Ps.b_is_possible ?a ?l ?c ?k; (case a => k_is); (case l => k_is); (case c => k_is); (case k => k_is))
      (case F_value => refine' Ps.fun_at KX G Ps.b_value ?a ?l ?c ?k; (case a => k_is); (case l => k_is); (case c => k_is); (case k => k_is))
      (case F_violation => refine' Ps.fun_at KX G Ps.b_violation ?a ?l ?c ?k; (case a => k_is); (case l => k_is); (case c => k_is); (case k => k_is))
      (case F_gain => refine' Ps.fun_at KX G Ps.b_gain ?a ?l ?c ?k; (case a => k_is); (case l => k_is); (case c => k_is); (case k => k_is))
      (case F_prices_fit => refine' Ps.fun_at KX G Ps.b_prices_fit ?a ?l ?c ?k; (case a => k_is); (case l => k_is); (case c => k_is); (case k => k_is))
      (case F_tuning_fits => refine' Ps.fun_at KX G Ps.b_tuning_fits ?a ?l ?c ?k; (case a => k_is); (case l => k_is); (case c => k_is); (case k => k_is))
      (case F_position_part => refine' Ps.fun_at KX G Ps.b_position_part ?a ?l ?c ?k; (case a => k_is); (case l => k_is); (case c => k_is); (case k => k_is))
      (case F_quota_part => refine' Ps.fun_at KX G Ps.b_quota_part ?a ?l ?c ?k; (case a => k_is); (case l => k_is); (case c => k_is); (case k => k_is))
      (case F_coverage_bound => refine' Ps.fun_at KX G Ps.b_coverage_bound ?a ?l ?c ?k; (case a => k_is); (case l => k_is); (case c => k_is); (case k => k_is))
      (case F_bound_of => refine' Ps.fun_at KX G Ps.b_bound_of ?a ?l ?c ?k; (case a => k_is); (case l => k_is); (case c => k_is); (case k => k_is))
      (case F_bound => refine' Ps.fun_at KX G Ps.b_bound ?a ?l ?c ?k; (case a => k_is); (case l => k_is); (case c => k_is); (case k => k_is))
      (case F_tuned_group => refine' Ps.fun_at KX G Ps.b_tuned_group ?a ?l ?c ?k; (case a => k_is); (case l => k_is); (case c => k_is); (case k => k_is))
      (case F_tune => refine' Ps.fun_at KX G Ps.b_tune ?a ?l ?c ?k; (case a => k_is); (case l => k_is); (case c => k_is); (case k => k_is))
      (case F_reduced => refine' Ps.fun_at KX G Ps.b_reduced ?a ?l ?c ?k; (case a => k_is); (case l => k_is); (case c => k_is); (case k => k_is))
      (case F_exposure => refine' Ps.fun_at KX G Ps.b_exposure ?a ?l ?c ?k; (case a => k_is); (case l => k_is); (case c => k_is); (case k => k_is))
      (case F_candidate_info => refine' Ps.fun_at KX G Ps.b_candidate_info ?a ?l ?c ?k; (case a => k_is); (case l => k_is); (case c => k_is); (case k => k_is))
      (case F_status => refine' Ps.fun_at KX G Ps.b_status ?a ?l ?c ?k; (case a => k_is); (case l => k_is); (case c => k_is); (case k => k_is))
      (case F_is_feasible => refine' Ps.fun_at KX G Ps.b_is_feasible ?a ?l ?c ?k; (case a => k_is); (case l => k_is); (case c => k_is); (case k => k_is))
      (case TT_members_fit => refine' Ps.tup_at5 KX G (x0 := "upper_quota_violation") (x1 := "lower_quota_violation") (x2 := "limit_violation") (x3 := "forbidden_violation") (x4 := "freshness_violation") ?a ?l ?n0 ?n1 ?n2 ?n3 ?n4; (case a => k_is); (case l => k_is); (case n0 => k_is); (case n1 => k_is); (case n2 => k_is); (case n3 => k_is); (case n4 => k_is))
      (case F_members_fit => refine' Ps.fun_at KX G Ps.b_members_fit ?a ?l ?c ?k; (case a => k_is); (case l => k_is); (case c => k_is); (case k => k_is))
      (case F_choices_at => refine' Ps.fun_at KX G Ps.b_choices_at ?a ?l ?c ?k; (case a => k_is); (case l => k_is); (case c => k_is); (case k => k_is))
      (case F_lengthen => refine' Ps.fun_at KX G Ps.b_lengthen ?a ?l ?c ?k; (case a => k_is); (case l => k_is); (case c => k_is); (case k => k_is))
      (case F_arrangements => refine' Ps.fun_at KX G Ps.b_arrangements ?a ?l ?c ?k; (case a => k_is); (case l => k_is); (case c => k_is); (case k => k_is))
      (case F_diversity_part => refine' Ps.fun_at KX G Ps.b_diversity_part ?a ?l ?c ?k; (case a => k_is); (case l => k_is); (case c => k_is); (case k => k_is))
      (case F_feasible_slates => refine' Ps.fun_at KX G Ps.b_feasible_slates ?a ?l ?c ?k; (case a => k_is); (case l => k_is); (case c => k_is); (case k => k_is))
      (case F_Candidate_init => refine' Ps.ifun_at Ps.b_Candidate_init ?a ?i ?l ?c ?k ?m ?n; (case a => k_is); (case i => k_is); (case l => k_is); (case c => k_is); (case k => k_is); (case m => k_is); (case n => k_is))
      (case F_Page_init => refine' Ps.ifun_at Ps.b_Page_init ?a ?i ?l ?c ?k ?m ?n; (case a => k_is); (case i => k_is); (case l => k_is); (case c => k_is); (case k => k_is); (case m => k_is); (case n => k_is))
      (case F_Page_relaxed => refine' Ps.mfun_at Ps.b_Page_relaxed ?a ?i ?l ?c ?k; (case a => k_is); (case i => k_is); (case l => k_is); (case c => k_is); (case k => k_is))
      (case F_greatest_value => refine' Ps.fun_at KX G Ps.b_greatest_value ?a ?l ?c ?k; (case a => k_is); (case l => k_is); (case c => k_is); (case k => k_is))
      (case F_count_feasible => refine' Ps.fun_at KX G Ps.b_count_feasible ?a ?l ?c ?k; (case a => k_is); (case l => k_is); (case c => k_is); (case k => k_is))
      (case F_gap => refine' Ps.fun_at KX G Ps.b_gap ?a ?l ?c ?k; (case a => k_is); (case l => k_is); (case c => k_is); (case k => k_is))
      (case F_cost_of => refine' Ps.fun_at KX G Ps.b_cost_of ?a ?l ?c ?k; (case a => k_is); (case l => k_is); (case c => k_is); (case k => k_is))
      (case F_worth => refine' Ps.fun_at KX G Ps.b_worth ?a ?l ?c ?k; (case a => k_is); (case l => k_is); (case c => k_is); (case k => k_is))
      (case F_best => refine' Ps.cfun_at KX G Ps.b_best ?a ?l ?c ?k; (case a => k_is); (case l => k_is); (case c => k_is); (case k => k_is))
      (case F_options_behind => refine' Ps.fun_at KX G Ps.b_options_behind ?a ?l ?c ?k; (case a => k_is); (case l => k_is); (case c => k_is); (case k => k_is))
      (case F_greedy_slate => refine' Ps.cfun_at KX G Ps.b_greedy_slate ?a ?l ?c ?k; (case a => k_is); (case l => k_is); (case c => k_is); (case k => k_is))
      (case F_greedy => refine' Ps.fun_at KX G Ps.b_greedy ?a ?l ?c ?k; (case a => k_is); (case l => k_is); (case c => k_is); (case k => k_is))
      (case F_cover => refine' Ps.cfun_at KX G Ps.b_cover ?a ?l ?c ?k; (case a => k_is); (case l => k_is); (case c => k_is); (case k => k_is))
      (case F_replaced => refine' Ps.fun_at KX G Ps.b_replaced ?a ?l ?c ?k; (case a => k_is); (case l => k_is); (case c => k_is); (case k => k_is))
      (case F_exchanges => refine' Ps.fun_at KX G Ps.b_exchanges ?a ?l ?c ?k; (case a => k_is); (case l => k_is); (case c => k_is); (case k => k_is))
      (case F_replacements => refine' Ps.fun_at KX G Ps.b_replacements ?a ?l ?c ?k; (case a => k_is); (case l => k_is); (case c => k_is); (case k => k_is))
      (case F_first_better => refine' Ps.fun_at KX G Ps.b_first_better ?a ?l ?c ?k; (case a => k_is); (case l => k_is); (case c => k_is); (case k => k_is))
      (case F_improve => refine' Ps.fun_at KX G Ps.b_improve ?a ?l ?c ?k; (case a => k_is); (case l => k_is); (case c => k_is); (case k => k_is))
      (case F_set_creators => refine' Ps.fun_at KX G Ps.b_set_creators ?a ?l ?c ?k; (case a => k_is); (case l => k_is); (case c => k_is); (case k => k_is))
      (case F_set_freshness => refine' Ps.fun_at KX G Ps.b_set_freshness ?a ?l ?c ?k; (case a => k_is); (case l => k_is); (case c => k_is); (case k => k_is))
      (case F_set_diversity => refine' Ps.fun_at KX G Ps.b_set_diversity ?a ?l ?c ?k; (case a => k_is); (case l => k_is); (case c => k_is); (case k => k_is))
      (case F_set_score => refine' Ps.fun_at KX G Ps.b_set_score ?a ?l ?c ?k; (case a => k_is); (case l => k_is); (case c => k_is); (case k => k_is))
      (case F_set_quota => refine' Ps.fun_at KX G Ps.b_set_quota ?a ?l ?c ?k; (case a => k_is); (case l => k_is); (case c => k_is); (case k => k_is))
      (case F_unpin => refine' Ps.fun_at KX G Ps.b_unpin ?a ?l ?c ?k; (case a => k_is); (case l => k_is); (case c => k_is); (case k => k_is))
      (case F_ordered_pair => refine' Ps.fun_at KX G Ps.b_ordered_pair ?a ?l ?c ?k; (case a => k_is); (case l => k_is); (case c => k_is); (case k => k_is))
      (case F_forbid => refine' Ps.fun_at KX G Ps.b_forbid ?a ?l ?c ?k; (case a => k_is); (case l => k_is); (case c => k_is); (case k => k_is))
      (case F_allow => refine' Ps.fun_at KX G Ps.b_allow ?a ?l ?c ?k; (case a => k_is); (case l => k_is); (case c => k_is); (case k => k_is))
      (case F_pin => refine' Ps.fun_at KX G Ps.b_pin ?a ?l ?c ?k; (case a => k_is); (case l => k_is); (case c => k_is); (case k => k_is))
      (case F_add_candidate => refine' Ps.fun_at KX G Ps.b_add_candidate ?a ?l ?c ?k; (case a => k_is); (case l => k_is); (case c => k_is); (case k => k_is))
      (case F_change => refine' Ps.fun_at KX G Ps.b_change ?a ?l ?c ?k; (case a => k_is); (case l => k_is); (case c => k_is); (case k => k_is))
      (case F_Session_init => refine' Ps.ifun_at Ps.b_Session_init ?a ?i ?l ?c ?k ?m ?n; (case a => k_is); (case i => k_is); (case l => k_is); (case c => k_is); (case k => k_is); (case m => k_is); (case n => k_is))
      (case F_Session_create => refine' Ps.mfun_at Ps.b_Session_create ?a ?i ?l ?c ?k; (case a => k_is); (case i => k_is); (case l => k_is); (case c => k_is); (case k => k_is))
      (case F_ask => refine' Ps.fun_at KX G Ps.b_ask ?a ?l ?c ?k; (case a => k_is); (case l => k_is); (case c => k_is); (case k => k_is))
      (case F_Session_answer => refine' Ps.mfun_at Ps.b_Session_answer ?a ?i ?l ?c ?k; (case a => k_is); (case i => k_is); (case l => k_is); (case c => k_is); (case k => k_is))
      (case FA => refine' Ps.forms_at KX G ?a ?l ?l0 ?l1 ?l2 ?l3 ?l4 ?l5 ?l6 ?l7 ?l8 ?l9 ?l10 ?l11 ?l12 ?l13 ?l14 ?l15 ?l16 ?l17 ?l18 ?l19 ?l20 ?l21 ?l22 ?l23 ?l24 ?l25 ?l26; (case a => k_is); (case l => k_is); (case l0 => k_is); (case l1 => k_is); (case l2 => k_is); (case l3 => k_is); (case l4 => k_is); (case l5 => k_is); (case l6 => k_is); (case l7 => k_is); (case l8 => k_is); (case l9 => k_is); (case l10 => k_is); (case l11 => k_is); (case l12 => k_is); (case l13 => k_is); (case l14 => k_is); (case l15 => k_is); (case l16 => k_is); (case l17 => k_is); (case l18 => k_is); (case l19 => k_is); (case l20 => k_is); (case l21 => k_is); (case l22 => k_is); (case l23 => k_is); (case l24 => k_is); (case l25 => k_is); (case l26 => k_is))
      (case F_split_calls => refine' Ps.fun_at KX G Ps.b_split_calls ?a ?l ?c ?k; (case a => k_is); (case l => k_is); (case c => k_is); (case k => k_is))
      (case F_answers => refine' Ps.fun_at KX G Ps.b_answers ?a ?l ?c ?k; (case a => k_is); (case l => k_is); (case c => k_is); (case k => k_is))
  case psS =>
    intro K H0 H xs a ex hT hwi hask hx
    have hTb : LamX.Tabs (Ps.tbs 313 225 270) H := fun p hp => by
      simp only [Ps.tbs, List.mem_cons, List.not_mem_nil, or_false] at hp
      rcases hp with rfl | rfl | rfl
      · exact LamX.TabS.nil (hT (317, 313) (.head _))
      · exact LamX.TabS.nil (hT (227, 225) (.tail _ (.head _)))
      · exact LamX.TabS.nil (hT (272, 270) (.tail _ (.tail _ (.head _))))
    cases hx with
    | cons h1 h2 =>
      cases h2
      cases h1 with
      | lst hs ha =>
        have e := L2.ints_dw a.1 _ ha
        subst e
        have q : ((Codec.inLen 0 1080 a.1 && a.1.all (Codec.inInt (-2147483648) 4294967295)) && true) = true := hwi
        rw [Bool.and_eq_true, Bool.and_eq_true] at q
        exact ⟨_, a.1, rfl, hTb, Evl.ex_l ex hs, hask, (Codec.inNat_iff.mp q.1.1).2, fun H' p hp => .lst (L2.SqL.of hp) (L2.dw_ints _)⟩
end
