import PyProof.Rows.All
import Wide.All
import OpenK.AllK
import Wide.FinOn
import KE.KStateDown
import Lean
import HandS.Base
import HandS.Call
import HandS.Ends
import HandS.More
import HandS.Words
import HandS.WordsExc
import HandS.Defaults
import HandS.Head0
import HandS.Head1
import HandS.Head2
import HandS.HeadEnd
import HandS.HeadHook1
import HandS.HeadHook2
import KE.KExcSuper
import KE.KExcIs
import HandS.FStr
import HandS.ExcOwn
import HandS.ExcValue
import HandS.IsInst
import HandS.List
import HandS.Comp
import HandS.Wide
import HandS.WordsList
import HandS.ForMost
import PySem.Challenge.RW_rulesmerged_k33_errors
set_option Elab.async false
set_option linter.all false
set_option maxRecDepth 100000
set_option maxHeartbeats 0
/-! a head by facts, one more Bool, and defs with a closure -/
namespace Hx
open PySem PySem.Spec PyProof.Rows L2 He
/-- a def that may close over something: what its text tells -/
abbrev FnI : Type := Option (Str × Str × Arguments × FuncBody × Scope × Addr × Addr)
def fnI (K : PySem.W.Frag) (p : Str × Option Str) : FnI := match K.lookup (fAd K p) with
  | some ⟨_, _, .func fd, _⟩ => some (fd.name, fd.qualname, fd.params, fd.body, fd.scope, fd.globals, fd.builtins)
  | _ => none
abbrev AlE : Type := AlD × Bool × List FnI
def obsE (fa : List Fa) (fn : List DefD) (ex : PySem.W.Frag → Bool) (cl : List DefD) (K : PySem.W.Frag) : AlE := (obsD fa fn K, ex K, cl.map fun d => fnI K d.at_)
def valI (d : DefD) : FnI := some (d.name, d.qual, d.params, .stmts d.body, d.scope, mainGlobals, builtinsNs)
def valE (fn cl : List DefD) : AlE := (valD fn, true, cl.map valI)
def SaysE (fa : List Fa) (fn : List DefD) (ex : PySem.W.Frag → Bool) (cl : List DefD) (K : PySem.W.Frag) : Prop := obsE fa fn ex cl K = valE fn cl
def obsEG (n : Nat) (fa : List Fa) (fn : List DefD) (ex : PySem.W.Frag → Bool) (cl : List DefD) (g : Addr → Option Obj) : AlE := obsE fa fn ex cl (frG g (cStatics :: asD g n))
def hookE (n : Nat) (fa : List Fa) (fn : List DefD) (ex : PySem.W.Frag → Bool) (cl : List DefD) : PySem.W.Hook where
  α := AlE
  obs := fun s => obsEG n fa fn ex cl s.heap.get?
  val := fun _ => valE fn cl
  says := fun _ h => ∃ K : PySem.W.Frag, K.In h ∧ SaysE fa fn ex cl K
  of := fun _ _ e => ⟨_, frG_in, e⟩
  keeps := fun _ _ _ ⟨K, hK, c⟩ k => ⟨K, PySem.W.Frag.In.keeps hK k, c⟩
theorem obsEG_eq {n : Nat} {fa : List Fa} {fn : List DefD} {ex : PySem.W.Frag → Bool} {cl : List DefD} {g : Addr → Option Obj} {s : Shared} (h : ∀ a, g a = s.heap.get? a) : obsEG n fa fn ex cl g = (hookE n fa fn ex cl).obs s := by
  have e : g = s.heap.get? := funext h
  rw [e] <;> rfl
section
variable {fa : List Fa} {fn : List DefD} {ex : PySem.W.Frag → Bool} {cl : List DefD} {K : PySem.W.Frag}
theorem SaysE.d (c : SaysE fa fn ex cl K) : SaysD fa fn K := congrArg (fun z : AlE => z.1) c
theorem SaysE.x (c : SaysE fa fn ex cl K) : ex K = true := congrArg (fun z : AlE => z.2.1) c
theorem SaysE.i (c : SaysE fa fn ex cl K) (i : Nat) {d : DefD} (h : cl[i]? = some d := by rfl) : fnI K d.at_ = valI d := by
  have e : (cl.map fun d => fnI K d.at_) = cl.map valI := congrArg (fun z : AlE => z.2.2) c
  have e2 : (cl.map fun d => fnI K d.at_)[i]? = (cl.map valI)[i]? := by rw [e]
  rw [List.getElem?_map, List.getElem?_map, h] at e2
  exact Option.some.inj e2
theorem SaysE.fact (c : SaysE fa fn ex cl K) {f : Fa} (h : f ∈ fa) : f.ok K = true := by
  obtain ⟨i, hi, e⟩ := List.mem_iff_getElem.mp h
  exact c.d.fact i (f := f) (by rw [List.getElem?_eq_getElem hi, e])
end
/-- d : K's def with a closure, its object -/
theorem fnI_ok {K : PySem.W.Frag} {d : DefD} (e : fnI K d.at_ = valI d) : ∃ oc od osl cl dV kV doc pm an cdv ct, K.lookup (fAd K d.at_) = some ⟨oc, od, .func (PySem.W.fnX d.name d.qual d.params d.body d.scope cl dV kV doc pm an cdv ct), osl⟩ := by
  unfold fnI valI at e
  cases q : K.lookup (fAd K d.at_) with
  | none =>
    rw [q] at e
    cases e
  | some o =>
    obtain ⟨oc, od, dt, osl⟩ := o
    rw [q] at e
    cases dt with
    | func fd =>
      obtain ⟨n1, n2, n3, n4, n5, n6, n7, n8, n9, n10, n11, n12, n13, n14, n15⟩ := fd
      have e2 : (some (n1, n2, n3, n4, n5, n6, n15) : FnI) = some (d.name, d.qual, d.params, .stmts d.body, d.scope, mainGlobals, builtinsNs) := e
      simp only [Option.some.injEq, Prod.mk.injEq] at e2
      obtain ⟨h1, h2, h3, h4, h5, h6, h7⟩ := e2
      subst h1 h2 h3 h4 h5 h6 h7
      exact ⟨oc, od, osl, n7, n8, n9, n10, n11, n12, n13, n14, rfl⟩
    | _ => cases e
end Hx
set_option Elab.async false
set_option linter.all false
set_option maxRecDepth 100000
set_option maxHeartbeats 4000000
/-! an error class with an __init__ of its own that calls the base's: f"..{line}", self.line = line -/
namespace PySem
namespace Px
open PySem.W PySem.Calls PyProof.Rows PySem.HandSPX PySem.Spec
abbrev A2 (p1 p2 : Pos) : Arguments := { posonlyargs := [], args := [{ arg := "self", annotation := none, pos := p1 }, { arg := "line", annotation := none, pos := p2 }], vararg := none, kwonlyargs := [], kw_defaults := [], kwarg := none, defaults := [] }
abbrev B2 (z : Str) (q1 q2 q3 q4 q5 q6 q7 q8 q9 q10 q11 q12 q13 : Pos) : List Stmt := [
  .Expr (.Call (.Attribute (.Call (.Name "super" q1) [] [] q2) "__init__" q3) [.JoinedStr [.Constant (.str z) 0 q4, .FormattedValue (.Name "line" q5) (-1) none q6] q7] [] q8) q9,
  .Assign [.Attribute (.Name "self" q10) "line" q11] (.Name "line" q12) q13]
abbrev S2 : Scope := { kind := .function, names := [("self", .local), ("line", .local), ("__class__", .free), ("super", .globalImplicit)], isGenerator := false, isCoroutine := false, more := [] }
/-- the facts of ParseError at C, of its __init__ at fI -/
structure PTxt (P : Program) (K : Frag) (mg : Str → Option Value) (C fI : Addr) : Prop where
  gC : mg "ParseError" = some (.ref C)
  cls : ∃ nm q N bs bm sn sub ab col dd k0 k1 k2 k3 k5, K.lookup C = some (excClassObj nm q C N bs bm true sn sub ab col dd k0 k1 k2 k3 k5 "ValueError.__new__") ∧ refsVE bm = true
  sa : findIn K (.ref C) "__setattr__" = some (some (.builtin "object.__setattr__"))
  noN : findIn K (.ref C) "line" = some none
  iC : findIn K (.ref C) "__init__" = some (some (.ref fI))
  tC : typeIn K (.ref fI) = some (.type "function")
  kC : keepIn K (.ref C) = true
  file : (P.main.file : Str) = "/claim/cut.py"
  nosup : (P.main.scope.names.lookup ("super" : Str)).isSome = false
  sup : mg "super" = none
  tp : nsIn K cStatics "thirdparty.any" = some none
  al : ks_superIn K C C "__init__" = some (some (.builtin "ValueError.__init__"))
  subD : mroIn K C (.ref C) = some true
  vE : subIn K (.ref C) (.type "ValueError") = some true
  fn : ∃ (oc : Value) (od : Option Addr) (doc pm : Value) (an : Option Addr) (cda : Addr) (ct : Value) (osl : Array (Option Value)) (cc : Addr) (cl : Value) (cld : Option Addr) (csl : Array (Option Value)) (ccl : Value) (cdd : Option Addr) (vs : Array Value) (ccs : Array (Option Value)) (tf : Tok)
    (p1 p2 q1 q2 q3 q4 q5 q6 q7 q8 q9 q10 q11 q12 q13 : Pos),
    K.lookup fI = some ⟨oc, od, .func (ksFn "__init__" "ParseError.__init__" (A2 p1 p2) (B2 "not understood at line " q1 q2 q3 q4 q5 q6 q7 q8 q9 q10 q11 q12 q13) S2 .none .none doc pm an (.ref cda) ct cc), osl⟩ ∧
    (∀ (L f : Addr), swapsWith (.Call (.Attribute (.Call (.Name "super" q1) [] [] q2) "__init__" q3) [.JoinedStr [.Constant (.str "not understood at line ") 0 q4, .FormattedValue (.Name "line" q5) (-1) none q6] q7] [] q8) none q9.line (ksEnv "ParseError.__init__" S2 L f (.ref cda) cc) = pure false) ∧
    (∀ (L f : Addr), eval (.Call (.Attribute (.Call (.Name "super" q1) [] [] q2) "__init__" q3) [.JoinedStr [.Constant (.str "not understood at line ") 0 q4, .FormattedValue (.Name "line" q5) (-1) none q6] q7] [] q8) (ksEnv "ParseError.__init__" S2 L f (.ref cda) cc) = (do
      let ov ← attributeBase (.Call (.Name "super" q1) [] [] q2) "__init__" (ksEnv "ParseError.__init__" S2 L f (.ref cda) cc) (eval (.Call (.Name "super" q1) [] [] q2) (ksEnv "ParseError.__init__" S2 L f (.ref cda) cc))
      standAt q3.atName
      let (f', first) ← holding [ov] (getMethod ov "__init__" (do return (← importBound (.Call (.Name "super" q1) [] [] q2) (ksEnv "ParseError.__init__" S2 L f (.ref cda) cc)).getD true))
      callWith q8 f' first (backTo q8 (starEach [.JoinedStr [.Constant (.str "not understood at line ") 0 q4, .FormattedValue (.Name "line" q5) (-1) none q6] q7] (ksEnv "ParseError.__init__" S2 L f (.ref cda) cc))) [])) ∧
    (∀ (L f : Addr), swapsWith (.Name "line" q12) (some (.Attribute (.Name "self" q10) "line" q11)) q13.line (ksEnv "ParseError.__init__" S2 L f (.ref cda) cc) = pure false) ∧
    codeIn K (.ref cda) "ParseError.__init__" = true ∧ K.lookup cc = some ⟨cl, cld, .cell (some (.ref C)), csl⟩ ∧ K.lookup cda = some ⟨ccl, cdd, .fields vs, ccs⟩ ∧ vs[2]? = some (.str "/claim/cut.py" tf)
/-- what __init__ leaves of a fresh exception at x -/
structure InitEnd (h h' : Heap) (x C dx t1 : Addr) (v : Value) : Prop where
  keep : ∀ b o, b ≠ x → h.get? b = some o → h'.get? b = some o
  obj : h'.get? x = some { cls := .ref C, dict := some dx, data := .fields #[.ref t1, .none, .none, .none, .bool false, .none] }
  dbig : h.objs.size ≤ dx
  dne : dx ≠ x
  ns : h'.Ns1 dx (fun y => if y = "line" then some v else none)
section
variable {prog : Program} {w : World} {A : Around} {E : Value → Shared → Prop} {R : Result → Shared → Prop} {s : Shared} {K : Frag} {mg : Str → Option Value} {C fI : Addr}
theorem kept_but {K : Frag} {h h' : Heap} {x : Addr} (X : K.In h) (hx : K.lookup x = none) (k : ∀ b o, b ≠ x → h.get? b = some o → h'.get? b = some o) : K.In h' := fun a o e =>
  k a o (fun z => by rw [z, hx] at e; cases e) (X a o e)
theorem one_size (v : Value) : [v].length ≤ sizeLine := by
  rw [sizeLine_eq]
  exact (by decide : 1 ≤ 16777216)
theorem parse_init (T : PTxt prog K mg C fI) {x t0 : Addr} {n : Int} {tk0 : Tok} (X : K.In s.heap) (hlim : s.heap.NoLimit) (hg : s.heap.Ns mainGlobals mg) (hb : ∃ mb, s.heap.Ns builtinsNs mb ∧ ∀ x : Str, x ≠ "__name__" → mb x = bootBuiltins x)
    (hx : s.heap.get? x = some (excO C t0)) (hnx : K.lookup x = none) (hroom : A.depth < recursionLimit) (hn : n.natAbs.log2 < 1920)
    (hq : ∀ h' tk dx t1, InitEnd s.heap h' x C dx t1 (.int n tk0) → R (.ok (.ret .none)) { s with heap := h', toks := tk }) :
    codeAny (model prog w) A (.call (.ref fI) ⟨[.ref x, .int n tk0], []⟩) R s := by
  obtain ⟨oc, od, doc, pm, an, cda, ct, osl, cc, cl, cld, csl, ccl, cdd, vs, ccs, tf, p1, p2, q1, q2, q3, q4, q5, q6, q7, q8, q9, q10, q11, q12, q13, ho, hsw1, hev, hsw2, hcd, hcell, hcode, hvs⟩ := T.fn
  obtain ⟨nm, q, N, bs, bm, sn, sub, ab, col, dd, k0, k1, k2, k3, k5, hC, hbm⟩ := T.cls
  have hcl : clsIn K C = some { name := nm, bases := bs, mro := .ref C :: bm, ns := N, qualname := q, hasDict := true, slotNames := sn, subclasses := sub, abstract := ab, collection := col, hasDel := false } := by unfold clsIn; rw [hC] <;> rfl
  refine ks_codeAny_call_defAt (fd := ksFn "__init__" "ParseError.__init__" (A2 p1 p2) (B2 "not understood at line " q1 q2 q3 q4 q5 q6 q7 q8 q9 q10 q11 q12 q13) S2 .none .none doc pm an (.ref cda) ct cc) (body := B2 "not understood at line " q1 q2 q3 q4 q5 q6 q7 q8 q9 q10 q11 q12 q13) (binds := [("self", .ref x), ("line", .int n tk0)])
    hroom (X _ _ ho) rfl hlim (codeRec_of X hcd) rfl (BindsTo.of_eq rfl) ?hcell ?hloc (fun h₁ hns hk => ?_) rfl rfl rfl
  case hcell =>
    intro y hy
    have : ∀ y ∈ (S2).names, y.2 ≠ .cell := by decide +kernel
    exact this y hy
  case hloc =>
    intro y hy
    rcases List.mem_cons.mp hy with rfl | hy
    · rfl
    · rcases List.mem_cons.mp hy with rfl | hy
      · rfl
      · cases hy
  have X₁ : K.In h₁ := X.keeps hk
  have hx₁ := hk _ _ hx
  have hkk := hk
  -- super()
  refine ks_wpAt_execs_cons (ks_wpAt_Expr_any ?_ rfl (hsw1 _ _))
  refine ks_wpAt_MethodCall ?_ (hev _ _)
  refine ks_wpAt_super_base (env := ksEnv "ParseError.__init__" S2 s.heap.objs.size fI (.ref cda) cc) rfl rfl rfl rfl (X₁ _ _ ho) rfl rfl rfl (X₁ _ _ hcode) rfl hvs (by rw [T.file]; rfl) T.nosup ?_
  obtain ⟨mb, hb1, hb2⟩ := hb
  refine ks_loadName_global rfl rfl (loadGlobal_builtin (env := ksEnv "ParseError.__init__" S2 s.heap.objs.size fI (.ref cda) cc) (hg.keeps hk) T.sup (hb1.keeps hk) ((hb2 _ (by decide +kernel)).trans (by decide +kernel : bootBuiltins "super" = some (.type "super"))) ⟨rfl, ?_⟩)
  refine wpAny_loadName_free rfl rfl rfl ⟨_, X₁ _ _ hcell, rfl⟩ ?_
  refine wpAny_loadName_local rfl rfl hns rfl ?_
  refine ks_wpAny_isType_cls (X₁ _ _ hC) rfl ⟨rfl, ?_⟩
  refine ks_wpAny_call_super (X₁ _ _ hC) rfl hx₁ rfl (fun c e => by cases e) (looks_mroIn X₁ T.subD) (fun h₂ hso k₂ => ?_)
  have X₂ : K.In h₂ := X₁.keeps k₂
  have hx₂ := k₂ _ _ hx₁
  have I₂ : InstAt h₂ x (excO C t0) C none := ⟨hx₂, rfl, rfl, trivial⟩
  have hal : alongIn K "__init__" (((Value.ref C :: bm).dropWhile (· != .ref C)).drop 1) = some (some (.builtin "ValueError.__init__")) := by
    have e := T.al
    unfold ks_superIn at e
    rw [hcl] at e
    exact e
  refine kxs_getMethod kxs_ValueError hso (looks_opaque X₂ T.tp) (l₀ := .ref C :: bm) (fun A Q E s k q => wpAny_bind ((looks_clsIn X₂ hcl) A _ E s k (wpAny_pure q))) rfl X₂ hal (I₂.type.andThen (looks_subIn X₂ T.vE)) (ks_ne X₂ I₂ hcl) (by decide +kernel) ?_
  dsimp only
  have k₃ : ∀ b o, h₂.get? b = some o → (h₂.push (kxs_mw "ValueError.__init__" x)).get? b = some o := fun b o e => Heap.get?_push_of_some _ e
  have hu : (h₂.push (kxs_mw "ValueError.__init__" x)).get? h₂.objs.size = some (kxs_mw "ValueError.__init__" x) := Heap.get?_push_at rfl rfl
  refine kxs_callWith (i := "ValueError.__init__") (x := x) rfl (evalArgs_plain ?_)
  refine spliced_cons ?_
  refine wpAny_JoinedStr (pos := q7) ?_
  show wpAny _ _ (eval (.Constant (.str "not understood at line ") 0 q4) _) _ _ _
  refine Calls.Constant_str ⟨_, _, rfl, (by decide +kernel), ?_⟩
  show wpAny _ _ (eval (.FormattedValue (.Name "line" q5) (-1) none q6) _) _ _ _
  have hns₂ := (hns.keeps k₂).keeps k₃
  refine wpAny_FormattedValue_plain (wpAny_Name (wpAny_loadName_local rfl rfl hns₂ (v := .int n tk0) rfl ?_) (by decide +kernel))
  refine wpAny_formatField_int hn ⟨_, _, rfl, ?_, ?_⟩
  · have e := int_text_length_le (k := 1920) (by decide) hn
    have e1 : (Str.ofString (toString n)).length ≤ 1930 := by rw [ofString_length]; omega
    have e2 : ((Str.empty ++ ("not understood at line " : Str)) ++ Str.ofString (toString n)).length = ((Str.empty ++ ("not understood at line " : Str))).length + (Str.ofString (toString n)).length := Str.length_append _ _
    have e3 : ((Str.empty ++ ("not understood at line " : Str))).length ≤ 100 := by decide +kernel
    rw [e2, sizeLine_eq]
    omega
  refine ⟨?_, ?_⟩
  · have e := int_text_length_le (k := 1920) (by decide) hn
    have e1 : (Str.ofString (toString n)).length ≤ 1930 := by rw [ofString_length]; omega
    have e2 : ((Str.empty ++ ("not understood at line " : Str)) ++ Str.ofString (toString n)).length = ((Str.empty ++ ("not understood at line " : Str))).length + (Str.ofString (toString n)).length := Str.length_append _ _
    have e3 : ((Str.empty ++ ("not understood at line " : Str))).length ≤ 100 := by decide +kernel
    rw [e2, sizeLine_eq]
    omega
  refine spliced_nil ⟨hu, ?_⟩
  refine wpAny_call (codeAny_of_tree ?_)
  show wpAny _ (Around.in1 _) (callAny (.ref h₂.objs.size) ⟨[_], []⟩) _ _ _
  simp only [callAny]
  refine wpAny_bind (wpAny_load hu ?_)
  simp only [kxs_mw, show (Value.type "method-wrapper" == Value.type "method" || Value.type "method-wrapper" == Value.type "builtin_function_or_method" || Value.type "method-wrapper" == Value.type "method-wrapper") = true by decide, if_true]
  refine KFB.if_so (by decide) ?_
  refine wpAny_bind (check_bound_init F.excBase_ValueError.toExcCallFacts (k₃ _ _ (k₂ _ _ (X₁ _ _ hC))) (k₃ _ _ hx₂) rfl ?_)
  refine wpAny_bind (wpAny_pure (wpAny_pure ?_))
  refine ⟨plainId_quiet F.excBase_ValueError.init.plain _, codeAny_builtin F.excBase_ValueError.initEntry ?_⟩
  refine exc_init_tree (cls := .ref C) (t0 := t0) (dv := none) (c2 := .none) (c3 := .none) (b4 := .bool false) (k₃ _ _ hx₂) (one_size _) (fun h₄ k₄ hx₄ ht₄ => ?_)
  show wpAt _ _ _ (execs [_] _) _ _ _
  refine wpAt_of_wpAny (wpAny_execs_cons (plainObj_wpAny_Assign_Attribute ?_ (hsw2 _ _)))
  have X₃ : K.In (h₂.push (kxs_mw "ValueError.__init__" x)) := X₂.keeps k₃
  have X₄ : K.In h₄ := kept_but X₃ hnx k₄
  have hxL : s.heap.objs.size ≠ x := Nat.ne_of_gt (Heap.lt_size hx)
  have hns₄ : h₄.Ns s.heap.objs.size (fun y => List.lookup y [("line", Value.int n tk0), ("self", .ref x)]) := by
    obtain ⟨oL, es, ep, hL, r⟩ := hns₂
    exact ⟨oL, es, ep, k₄ _ _ hxL hL, r⟩
  refine wpAny_Name (wpAny_loadName_local rfl rfl hns₄ (v := .int n tk0) rfl ?_) (by decide +kernel)
  refine wpAny_Name (wpAny_loadName_local rfl rfl hns₄ (v := .ref x) (by first | rfl | kernel_rfl) ?_) (by decide +kernel)
  refine set_plain X₄ (ox := excO C _) (od := none) ⟨hx₄, rfl, rfl, trivial⟩ T.sa ?_
  refine exc_osa X₄ hx₄ hcl (show refsVE (.ref C :: bm) = true from hbm) rfl T.noN (fun h₅ tk₅ dx k₅ dn dne hx₅ hn₅ => ?_)
  show wpAny _ _ (execs [] _) _ _ _
  have kall : ∀ b o, b ≠ x → s.heap.get? b = some o → h₅.get? b = some o := fun b o hb e => k₅ b o hb (k₄ b o hb (k₃ _ _ (k₂ _ _ (hk _ _ e))))
  have hsz : s.heap.objs.size ≤ h₄.objs.size := by
    obtain ⟨oL, es, ep, hL, r⟩ := hns₄
    exact Nat.le_of_lt (Heap.lt_size hL)
  exact wpAny_execs_nil (hq h₅ tk₅ dx _ ⟨kall, hx₅, Nat.le_trans hsz dn, dne, hn₅⟩)
/-- a made ParseError -/
structure OwnMade (h h' : Heap) (e C d : Addr) (v : Value) : Prop where
  keep : ∀ b o, h.get? b = some o → h'.get? b = some o
  new : h.objs.size ≤ e
  obj : ∃ oe vs, h'.get? e = some oe ∧ oe.cls = .ref C ∧ oe.dict = some d ∧ oe.data = .fields vs ∧ vs[1]? = some .none
  dbig : h.objs.size ≤ d
  dne : d ≠ e
  ns : h'.Ns1 d (fun y => if y = "line" then some v else none)
theorem parse_made (T : PTxt prog K mg C fI) {n : Int} {tk0 : Tok} (X : K.In s.heap) (hlim : s.heap.NoLimit) (hg : s.heap.Ns mainGlobals mg) (hb : ∃ mb, s.heap.Ns builtinsNs mb ∧ ∀ x : Str, x ≠ "__name__" → mb x = bootBuiltins x)
    (hroom : A.depth + 1 < recursionLimit) (hn : n.natAbs.log2 < 1920)
    (hq : ∀ h' tk e d, OwnMade s.heap h' e C d (.int n tk0) → R (.ok (.ret (.ref e))) { s with heap := h', toks := tk }) :
    codeAny (model prog w) A (.call (.ref C) ⟨[.int n tk0], []⟩) R s := by
  obtain ⟨nm, q, N, bs, bm, sn, sub, ab, col, dd, k0, k1, k2, k3, k5, hC, hbm⟩ := T.cls
  obtain ⟨hp, g, dr, tk, os⟩ := s
  have k : ∀ b o, hp.get? b = some o → ((hp.push (kdv_tup [.int n tk0])).push (excO C hp.objs.size)).get? b = some o := fun b o e => Heap.get?_push_of_some _ (Heap.get?_push_of_some _ e)
  have hget : ((hp.push (kdv_tup [.int n tk0])).push (excO C hp.objs.size)).get? (hp.objs.size + 1) = some (excO C hp.objs.size) := by heap_get
  have hnx : K.lookup (hp.objs.size + 1) = none := by
    cases e : K.lookup (hp.objs.size + 1) with
    | none => rfl
    | some o =>
      have z : hp.get? (hp.objs.size + 1) = some o := X _ _ e
      exact absurd (Nat.lt_of_succ_lt (Heap.lt_size z)) (Nat.lt_irrefl _)
  refine call_own F.excBase_ValueError (fun X => refsVE_contains X bm hbm) (X _ _ hC) (looks_findIn X T.iC) (fun self => bind_fn X self T.tC) (one_size _) ?_
  refine parse_init (s := ⟨(hp.push (kdv_tup [.int n tk0])).push (excO C hp.objs.size), g, dr, tk, os⟩) T (X.keeps k) (hlim.keeps k) (hg.keeps k) ?_ hget hnx ?_ hn fun h' tk' dx t1 ⟨k', hx, dn, dne, hns⟩ => ?_
  · obtain ⟨mb, h1, h2⟩ := hb
    exact ⟨mb, h1.keeps k, h2⟩
  · show A.depth + 1 < recursionLimit
    exact hroom
  · have old : ∀ b o, hp.get? b = some o → h'.get? b = some o := fun b o e => k' b o (Nat.ne_of_lt (Nat.lt_succ_of_lt (Heap.lt_size e))) (k b o e)
    have z : hp.objs.size + 1 + 1 ≤ dx := by
      first
        | (simpa only [Heap.size_push] using dn)
        | exact dn
        | (have q := dn; rw [Heap.size_push, Heap.size_push] at q; exact q)
    exact ⟨rfl, hq h' tk' (hp.objs.size + 1) dx ⟨old, Nat.le_succ _, ⟨_, _, hx, rfl, rfl, rfl, rfl⟩, Nat.le_trans (Nat.le_trans (Nat.le_succ _) (Nat.le_succ _)) z, dne, hns⟩⟩
end
end Px
end PySem
namespace L2
open PySem PySem.Spec PyProof.Rows
/-- an exception object of the class cls with its own dict at d, not raised, at a -/
def ExD (cls : Value) (d a : Addr) : HO := .ext fun h => ∃ (oe : Obj) (vs : Array Value), h.get? a = some oe ∧ Zc cls (some d) oe ∧ oe.data = .fields vs
theorem exD_ok {P : Program} {w : World} {H : Hp} {h : Heap} {a d : Addr} {cls : Value} {oe : Obj} {vs : Array Value} (e : h.get? a = some oe) (z : Zc cls (some d) oe) (dt : oe.data = .fields vs) : ObjOk P w H h a (ExD cls d a) :=
  ⟨⟨oe, vs, e, z, dt⟩, ⟨oe, e⟩, fun _ _ ⟨o, v, q, r⟩ k => ⟨o, v, k o q, r⟩⟩
theorem relO_line {v : V} {v' : Value} (r : RelV v v') (f : Str) : RelO (List.lookup f [(("line" : Str), v)]) (if f = "line" then some v' else none) := by
  by_cases hw : f = "line"
  · subst hw
    rw [if_pos rfl]
    have q : List.lookup ("line" : Str) [(("line" : Str), v)] = some v := by simp [List.lookup]
    rw [q]
    exact r
  · rw [if_neg hw]
    have qw : (f == ("line" : Str)) = false := by simpa using hw
    have q2 : List.lookup f [(("line" : Str), v)] = none := by simp [List.lookup, qw]
    rw [q2]
    trivial
section
variable {X : Cx} {C fI : Addr}
/-- ParseError(e) as a value -/
def tParse (C : Addr) (te : TE) : TE := fun σ H Q => te σ H fun x H1 => ∃ n : Int, x = .int n ∧ n.natAbs.log2 < 1920 ∧ ∀ a d, H1 a = none → H1 d = none → a ≠ d → Q (.ref a) (upd (upd H1 d (.xd [(("line" : Str), .int n)])) a (ExD (.ref C) d a))
theorem pe_parse {e : Expr} {te : TE} {p pos : Pos} {k : Nat} (T : PySem.Px.PTxt X.prog X.K X.mg C fI) (hr : Room k X.A) (he : PE X e te) (hg : Gl X "ParseError" := by rfl)
    (hs : starEach [e] X.env = (false, eval e X.env) :: starEach [] X.env := by rfl) : PE X (.Call (.Name "ParseError" p) [e] [] pos) (tParse C te) := by
  refine ⟨fun pins s σ H Q I h => ?_⟩
  refine wpAny_Call_Name_kw (ld_glob I hg T.gC ?_)
  refine PySem.W.callWith_K (h₀ := X.base) I.ok.mod.kin T.kC ?_ hs (by rfl)
  rw [hs]
  show wpAny _ _ (spliced ((false, eval e X.env) :: backTo pos (starEach [] X.env))) _ _ s
  refine Calls.spliced_cons (thn (he.run pins s σ H _ I h) fun u s1 ⟨v, H1, I1, r1, n, ev, hn, q1⟩ => ?_)
  subst ev
  obtain ⟨tk0, rfl⟩ := r1
  refine Calls.spliced_nil ⟨I1.kIn, ?_⟩
  show wpAny _ _ (call (.ref C) [_]) _ _ _
  have hlim := I1.nolimit
  have hgl := I1.mod.glob.keeps I1.bk
  have hbl : ∃ mb, s1.heap.Ns builtinsNs mb ∧ ∀ x : Str, x ≠ "__name__" → mb x = bootBuiltins x := by
    obtain ⟨mb, h1, h2⟩ := I1.mod.blt
    exact ⟨mb, h1.keeps I1.bk, h2⟩
  have kin := I1.kIn
  obtain ⟨hp, g, dr, tk, os⟩ := s1
  refine wpAny_call (PySem.Px.parse_made T kin hlim hgl hbl (by have := hr.dp; omega) hn fun h' tk' a d M => ?_)
  obtain ⟨oe, fv, hoe, hc, hd, hdat, h1⟩ := M.obj
  have hns := M.ns
  obtain ⟨G', g1, g2⟩ := restrict h' fun b => decide (b ≠ a)
  have gk : ∀ b, b ≠ a → G'.get? b = h'.get? b := fun b hb => g1 b (decide_eq_true hb)
  have ge : G'.get? a = none := g2 a (by simp)
  have old : ∀ b o, hp.get? b = some o → G'.get? b = some o := fun b o q => (gk b (Nat.ne_of_lt (Nat.lt_of_lt_of_le (Heap.lt_size q) M.new))).trans (M.keep b o q)
  have ob : ObjOk X.prog X.w (upd H1 d (.xd [(("line" : Str), .int n)])) G' d (.xd [(("line" : Str), .int n)]) :=
    ⟨_, hns.at (fun o q => (gk d M.dne).trans q), fun f => relO_line (v := .int n) (v' := .int n tk0) ⟨tk0, rfl⟩ f⟩
  have J : Inv X pins σ (upd H1 d (.xd [(("line" : Str), .int n)])) ⟨G', g, dr, tk', os⟩ := I1.laid (t' := tk') old M.dbig ob
  have ha0 : H1 a = none := I1.hok.fresh M.new
  have hd0 : H1 d = none := I1.hok.fresh M.dbig
  have hna : upd H1 d (.xd [(("line" : Str), .int n)]) a = none := by rw [upd_ne (Ne.symm M.dne)]; exact ha0
  have J2 := J.laidN (h' := h') (a := a) (o := ExD (.ref C) d a) (t' := tk') (fun b o q => by
    by_cases hb : b = a
    · have q' : G'.get? b = some o := q
      rw [hb, ge] at q'; cases q'
    · exact (gk b hb).symm.trans q) ge hna (exD_ok hoe ⟨hc, hd⟩ hdat)
  exact ⟨.ref a, _, J2, rfl, q1 a d ha0 hd0 (Ne.symm M.dne)⟩
/-! ### isinstance of an exception that is held as a value -/
/-- what the class D must say -/
structure ExC (K : PySem.W.Frag) (D : Addr) : Prop where
  hg : PySem.W.findIn K (.ref D) "__getattribute__" = some (some (.builtin "BaseException.__getattribute__"))
  hk : PySem.W.findIn K (.ref D) "__getattr__" = some none
  hs : PySem.W.subIn K (.ref D) (.type "BaseException") = some true
  hd : PySem.W.hasDictIn K D = true
  ha : PySem.W.findIn K (.ref D) "__class__" = some (some (.builtin "object.__class__"))
  hn : PySem.W.specialIn K (.builtin "object.__class__") "__get__" = some (some (.builtin "getset_descriptor.__get__"))
  ht : PySem.W.takesIn K (.builtin "object.__class__") = some true
  hm : PySem.W.mroIn K D (.type "object") = some true
/-- an exception of the class at D stands at a: without a dict, or with one that holds fs -/
def IsEx (H : Hp) (a D : Addr) : Prop := H a = some (ExO (.ref D) a) ∨ ∃ d fs, H a = some (ExD (.ref D) d a) ∧ H d = some (.xd fs)
theorem ex_inst {pins : List (Addr × Obj)} {σ : St} {H : Hp} {s : Shared} {a D : Addr} (I : Inv X pins σ H s) (h : IsEx H a D) : ∃ oe od, PySem.W.InstAt s.heap a oe D od := by
  rcases h with h | ⟨d, fs, h, h2⟩
  · obtain ⟨⟨oe, vs, ho, hz, hd, _⟩, _, _⟩ := I.hok a _ h
    refine ⟨oe, none, ho, hz.1, by unfold PySem.W.notCls; rw [hd] <;> rfl, ?_⟩
    rw [hz.2]
    trivial
  · obtain ⟨⟨oe, vs, ho, hz, hd⟩, _, _⟩ := I.hok a _ h
    obtain ⟨mA, ⟨od, es, ep, hod, _⟩, _⟩ := I.hok d _ h2
    refine ⟨oe, some od, ho, hz.1, by unfold PySem.W.notCls; rw [hd] <;> rfl, ?_⟩
    rw [hz.2]
    exact hod
def rIsX (K : PySem.W.Frag) : List V → Hp → VK → Prop := fun xs H Q => ∃ (a D : Addr) (c : V) (u : Value) (b : Bool), xs = [.ref a, c] ∧ IsEx H a D ∧ ExC K D ∧ ClsV c u ∧ PySem.W.kitOne K (.ref D) u = some b ∧ Q (.bl b) H
theorem call_isX : CallR X (.builtin "isinstance") (rIsX X.K) := by
  intro pins s σ H xs us Q I r h
  obtain ⟨a, D, c, u, b, rfl, hx, C, hc, e, q⟩ := h
  obtain ⟨u1, u2, rfl, r1, r2⟩ := vals2 r
  cases (show u1 = Value.ref a from r1)
  have e2 := hc.eq r2
  subst e2
  obtain ⟨oe, od, J⟩ := ex_inst I hx
  have hcl : (PySem.W.clsIn X.K D).isSome = true := by
    have := C.hd
    unfold PySem.W.hasDictIn at this
    cases z : PySem.W.clsIn X.K D with
    | none => rw [z] at this; cases this
    | some cd => rfl
  exact PySem.W.kia_one (PySem.W.kitx_exc (od := od) hcl C.hg C.hk C.hs C.ha C.hn C.ht C.hm) I.kIn J e (fun z => nomatch z) fun tk => ⟨.bl b, H, I.kept (t' := tk) fun _ _ z => z, rfl, q⟩
/-- e.line, e an exception held as a value -/
def tLine (K : PySem.W.Frag) (te : TE) : TE := fun σ H Q => te σ H fun x H1 => ∃ (a D d : Addr) (v : V), x = .ref a ∧ H1 a = some (ExD (.ref D) d a) ∧ H1 d = some (.xd [(("line" : Str), v)]) ∧ ExC K D ∧ PySem.W.findIn K (.ref D) "line" = some none ∧ Q v H1
theorem pe_line {e : Expr} {te : TE} {pos : Pos} (he : PE X e te) (hb : attributeBase e "line" X.env (eval e X.env) = eval e X.env := by rfl) : PE X (.Attribute e "line" pos) (tLine X.K te) := by
  refine ⟨fun pins s σ H Q I h => ?_⟩
  refine attr_of hb (thn (he.run pins s σ H _ I h) fun u s1 hh => ?_)
  obtain ⟨x, H1, I1, rx, a, D, d, v, ex, ea, ed, C, noN, q⟩ := hh
  subst ex
  obtain rfl : u = Value.ref a := rx
  obtain ⟨⟨oe, vs, ho, hz, hd⟩, _, _⟩ := I1.hok a _ ea
  have hx : ObjOk X.prog X.w H1 s1.heap d (.xd [(("line" : Str), v)]) := I1.hok d _ ed
  obtain ⟨mA, hns, hr⟩ := hx
  obtain ⟨od, hod, hl⟩ := lookIn_ns hns
  have l : List.lookup ("line" : Str) [(("line" : Str), v)] = some v := by simp [List.lookup]
  obtain ⟨u, hu, ru⟩ := RelO.some_of (v := v) (o := mA "line") (by rw [← l]; exact hr "line")
  have J : PySem.W.InstAt s1.heap a oe D (some od) := ⟨ho, hz.1, by unfold PySem.W.notCls; rw [hd] <;> rfl, by rw [hz.2]; exact hod⟩
  exact HandSPX.exc_get I1.kIn J C.hg C.hk C.hs (PySem.W.findObj_own C.hd noN rfl (by rw [hl, hu])) (handed_of ru) ⟨v, H1, I1.tok _, ru, q⟩
end
end L2
set_option Elab.async false
set_option linter.all false
set_option maxRecDepth 100000
set_option maxHeartbeats 4000000
namespace PySem
namespace Px
open PySem.W PySem.Calls PyProof.Rows PySem.HandSPX PySem.Spec He
/-- an exception class over ValueError, its own dict -/
def clsB (K : Frag) (C : Addr) : Bool := match K.lookup C with
  | some ⟨.type "type", _, .cls cd, sl⟩ => (match cd.mro, sl.toList with
    | .ref C' :: bm, [_, _, _, _, some (.builtin n), _] => C' == C && n == "ValueError.__new__" && !cd.hasDel && refsVE bm && cd.hasDict
    | _, _ => false)
  | _ => false
theorem clsB_ok {K : Frag} {C : Addr} (h : clsB K C = true) : ∃ nm q N bs bm sn sub ab col dd k0 k1 k2 k3 k5, K.lookup C = some (excClassObj nm q C N bs bm true sn sub ab col dd k0 k1 k2 k3 k5 "ValueError.__new__") ∧ refsVE bm = true := by
  unfold clsB at h
  split at h
  · rename_i dd cd sl ho
    split at h
    · rename_i C' bm k0 k1 k2 k3 n k5 hm hs
      simp only [Bool.and_eq_true, beq_iff_eq, Bool.not_eq_true'] at h
      obtain ⟨⟨⟨⟨rfl, rfl⟩, hdel⟩, ht⟩, hd⟩ := h
      obtain ⟨nm, bs, mro, ns, qn, hd', sn, sub, ab, col, del⟩ := cd
      dsimp only at hm hdel hd
      subst hm hdel hd
      have hsl : sl = #[k0, k1, k2, k3, some (.builtin "ValueError.__new__"), k5] := by
        obtain ⟨l⟩ := sl
        simp only at hs
        rw [hs]
      subst hsl
      exact ⟨_, _, _, _, _, _, _, _, _, _, _, _, _, _, _, ho, ht⟩
    · cases h
  · cases h
/-- the closure of ParseError.__init__, its code -/
def fnB (K : Frag) (C fI : Addr) : Bool := match K.lookup fI with
  | some ⟨_, _, .func fd, _⟩ => decide (fd.defaults = .none) && (decide (fd.kwdefaults = .none) && (match fd.closure, fd.code with
    | [(x, cc)], .ref cda => decide (x = ("__class__" : Str)) && ((match K.lookup cc with
      | some ⟨_, _, .cell (some (.ref D)), _⟩ => decide (D = C)
      | _ => false) && (codeIn K (.ref cda) "ParseError.__init__" && (match K.lookup cda with
      | some ⟨_, _, .fields vs, _⟩ => (match (vs[2]? : Option Value) with
        | some (.str z _) => decide (z = ("/claim/cut.py" : Str))
        | _ => false)
      | _ => false)))
    | _, _ => false))
  | _ => false
def parseB (K : Frag) : Bool :=
  clsB K (ga K "ParseError") && (eqO (findIn K (.ref (ga K "ParseError")) "__setattr__") (some (some (.builtin "object.__setattr__"))) && (eqO (findIn K (.ref (ga K "ParseError")) "line") (some none) &&
  (eqO (findIn K (.ref (ga K "ParseError")) "__init__") (some (some (.ref (ma K (ga K "ParseError") "__init__")))) && (decide (typeIn K (.ref (ma K (ga K "ParseError") "__init__")) = some (.type "function")) && (keepIn K (.ref (ga K "ParseError")) &&
  (eqO (nsIn K cStatics "thirdparty.any") (some none) && (eqO (ks_superIn K (ga K "ParseError") (ga K "ParseError") "__init__") (some (some (.builtin "ValueError.__init__"))) && (decide (mroIn K (ga K "ParseError") (.ref (ga K "ParseError")) = some true) &&
  (decide (subIn K (.ref (ga K "ParseError")) (.type "ValueError") = some true) && fnB K (ga K "ParseError") (ma K (ga K "ParseError") "__init__"))))))))))
theorem fnB_ok {K : Frag} {C fI : Addr} {oc : Value} {od : Option Addr} {osl : Array (Option Value)} {nm q : Str} {ps : Arguments} {b : List Stmt} {sc : Scope} {cl : List (Str × Addr)} {dV kV doc pm cdv ct : Value} {an : Option Addr}
    (l : K.lookup fI = some ⟨oc, od, .func (fnX nm q ps b sc cl dV kV doc pm an cdv ct), osl⟩) (h : fnB K C fI = true) :
    dV = .none ∧ kV = .none ∧ ∃ (cda cc : Addr) (ccl cl' : Value) (cld cdd : Option Addr) (csl ccs : Array (Option Value)) (vs : Array Value) (tf : Tok), cl = ([("__class__", cc)] : List (Str × Addr)) ∧ cdv = .ref cda ∧ codeIn K (.ref cda) "ParseError.__init__" = true ∧ K.lookup cc = some ⟨cl', cld, .cell (some (.ref C)), csl⟩ ∧ K.lookup cda = some ⟨ccl, cdd, .fields vs, ccs⟩ ∧ vs[2]? = some (.str "/claim/cut.py" tf) := by
  unfold fnB at h
  rw [l] at h
  obtain ⟨h1, h⟩ := ba h
  obtain ⟨h2, h⟩ := ba h
  refine ⟨of_decide_eq_true h1, of_decide_eq_true h2, ?_⟩
  dsimp only at h
  split at h
  · rename_i x cc cda e1 e2
    obtain ⟨h3, h⟩ := ba h
    obtain ⟨h4, h⟩ := ba h
    obtain ⟨h5, h6⟩ := ba h
    have e3 : x = ("__class__" : Str) := of_decide_eq_true h3
    subst e3
    split at h4
    · rename_i c1 d1 D s1 l1
      have e4 : D = C := of_decide_eq_true h4
      subst e4
      split at h6
      · rename_i c2 d2 vs s2 l2
        split at h6
        · rename_i z tf hz
          have e6 : z = ("/claim/cut.py" : Str) := of_decide_eq_true h6
          subst e6
          exact ⟨cda, cc, c2, c1, d1, d2, s1, s2, vs, tf, rfl, rfl, h5, l1, l2, hz⟩
        · cases h6
      · cases h6
    · cases h4
  · cases h
/-- what isinstance asks of an error class -/
def excB (K : Frag) (D : Addr) : Bool := eqO (findIn K (.ref D) "__getattribute__") (some (some (.builtin "BaseException.__getattribute__"))) && (eqO (findIn K (.ref D) "__getattr__") (some none) && (decide (subIn K (.ref D) (.type "BaseException") = some true) && (hasDictIn K D &&
  (eqO (findIn K (.ref D) "__class__") (some (some (.builtin "object.__class__"))) && (eqO (specialIn K (.builtin "object.__class__") "__get__") (some (some (.builtin "getset_descriptor.__get__"))) && (decide (takesIn K (.builtin "object.__class__") = some true) && decide (mroIn K D (.type "object") = some true)))))))
theorem excB_ok {K : Frag} {D : Addr} (h : excB K D = true) : L2.ExC K D := by
  obtain ⟨h1, h⟩ := ba h
  obtain ⟨h2, h⟩ := ba h
  obtain ⟨h3, h⟩ := ba h
  obtain ⟨h4, h⟩ := ba h
  obtain ⟨h5, h⟩ := ba h
  obtain ⟨h6, h⟩ := ba h
  obtain ⟨h7, h8⟩ := ba h
  exact ⟨eqO_ok h1, eqO_ok h2, of_decide_eq_true h3, h4, eqO_ok h5, eqO_ok h6, of_decide_eq_true h7, of_decide_eq_true h8⟩
end Px
end PySem
set_option Elab.async false
set_option linter.all false
set_option maxRecDepth 100000
set_option maxHeartbeats 0
namespace K33
open PySem PySem.Spec PyProof.Rows L2 He
def top (i : Nat) : Stmt := PySem.Challenge.pw_rulesmerged_k33_errors.main.body.getD i (.Pass ⟨0, 0, 0, 0⟩)
abbrev sInit : Stmt := inClass (top 2) 0
abbrev sPen : Stmt := top 33
abbrev sNext : Stmt := top 34
abbrev sDraw : Stmt := top 35
abbrev sOf : Stmt := top 36
abbrev sErrors : Stmt := top 37
abbrev sLaw : Stmt := top 38
def excs : List Str := ["BookBroken", "DuplicateName", "InvalidBook", "InvalidCase", "InvalidCondition", "InvalidCopies", "InvalidCopy", "InvalidHeld", "InvalidHistory", "InvalidKinds", "InvalidLets", "InvalidLine", "InvalidMeeting", "InvalidName", "InvalidNames", "InvalidNumber", "InvalidRows", "InvalidSchema", "InvalidScript", "InvalidWays", "MergeBroken", "NotLet", "NothingToUndo", "ParseError", "UnknownColumn", "UnknownCopy", "UnknownFlag", "UnknownRow", "UnknownStore", "UnknownTable"]
def allx : List Str := (("ApartError" : Str) :: excs)
end K33
set_option Elab.async false
set_option linter.all false
set_option maxRecDepth 100000
set_option maxHeartbeats 0
namespace K33
open PySem PySem.Spec PyProof.Rows L2 He
def mkD (x : Str) (st : Stmt) : DefD := ⟨(x, none), x, x, defArgs st, defBody st, defScope st, [], []⟩
def fn : List DefD := [mkD "_law_pen" sPen, mkD "_law_next" sNext, mkD "_law_draw" sDraw, mkD "_law_of" sOf, mkD "_law_errors" sErrors, mkD "law" sLaw]
def dI : DefD := ⟨("ParseError", some "__init__"), "__init__", "ParseError.__init__", defArgs sInit, defBody sInit, defScope sInit, [], []⟩
def fa : List Fa := [.glo "_law_pen", .glo "_law_next", .glo "_law_draw", .glo "_law_of", .glo "_law_errors", .glo "law", .free "len", .free "list", .free "int", .free "range", .free "isinstance", .free "any", .free "ValueError", .free "super"]
  ++ allx.map Fa.glo ++ (allx.filter fun x => decide (x ≠ ("ParseError" : Str))).map Fa.exc
def exK (K : PySem.W.Frag) : Bool := (allx.all fun x => excs.all fun y => decide (PySem.W.kitOne K (.ref (ga K x)) (.ref (ga K y)) = some (decide (x = y)))) &&
  ((excs.all fun x => decide (PySem.W.kitOne K (.ref (ga K x)) (.ref (ga K "ApartError")) = some true)) && ((excs.all fun x => decide (PySem.W.kitOne K (.ref (ga K x)) (.type "ValueError") = some true)) &&
  ((allx.all fun x => PySem.Px.excB K (ga K x)) && PySem.Px.parseB K)))
abbrev R : PySem.W.OpenRow := PySem.W.OpenLaw.row PySem.Challenge.rw_rulesmerged_k33_errors
abbrev hk : PySem.W.Hook := Hx.hookE 6 fa fn exK [dI]
def ob (s : PySem.W.SharedT) : Hx.AlE := Hx.obsEG 6 fa fn exK [dI] (HandSHeadRun.getT s)
theorem ob_eq (s : PySem.W.SharedT) : ob s = hk.obs s.abs := Hx.obsEG_eq (HandSHeadRun.getT_eq s)
def loose : List Str := allx ++ (["_law_pen", "_law_next", "_law_draw", "_law_of", "_law_errors"] : List Str)
theorem run (w : World) : HandSHeadRun.RunEq R (PySem.W.view R.prog [38]) hk ob 9000 loose w := by
  intro os
  kernel_rfl
end K33
set_option Elab.async false
set_option linter.all false
set_option maxRecDepth 100000
set_option maxHeartbeats 4000000
namespace K33
open PySem PySem.Spec PyProof.Rows L2
abbrev FnP (K : PySem.W.Frag) (x : Str) (st : Stmt) (f : Addr) (fd : FuncData) : Prop := FunD K x x (defArgs st) (defBody st) (defScope st) [] [] f fd
/-! ### the pen: [cells, count, rest] -/
def PenH (H : Hp) (p a : Addr) (ns : List Int) (i d : Int) : Prop := H p = some (.lst [.ref a, .int i, .int d]) ∧ H a = some (.lst (ns.map V.int)) ∧ ns.length ≤ 60 ∧ 0 ≤ i
/-- all but p is as it was -/
def But (p : Addr) (H H' : Hp) : Prop := ∀ b o, b ≠ p → H b = some o → H' b = some o
theorem But.refl {p : Addr} (H : Hp) : But p H H := fun _ _ _ e => e
theorem But.trans {p : Addr} {H H1 H2 : Hp} (a : But p H H1) (b : But p H1 H2) : But p H H2 := fun c o h e => b c o h (a c o h e)
theorem But.set {p : Addr} {H : Hp} {o : HO} : But p H (L2.upd H p o) := fun b u h e => by rw [upd_ne h]; exact e
theorem But.new {p q : Addr} {H : Hp} {o : HO} (n : H q = none) : But p H (L2.upd H q o) := fun b u _ e => by rw [upd_ne (ne_of_none e n)]; exact e
def spPen (K : PySem.W.Frag) : Sp := fun vs H Q _ => ∃ (s : Addr) (ns : List Int), vs = [.ref s] ∧ SqL K H s (ns.map V.int) ∧
  ∀ (p a : Addr) (ms : List Int) (H' : Hp), H p = none → PenH H' p a ms 0 0 → Same H H' → Q (.ref p) H'
def spNext : Sp := fun vs H Q _ => ∃ (p a : Addr) (ns : List Int) (i d : Int), vs = [.ref p] ∧ PenH H p a ns i d ∧ i < 2 ^ 40 ∧
  ∀ (z : Int) (H' : Hp), PenH H' p a ns (i + 1) d → But p H H' → Q (.int z) H'
def spDraw : Sp := fun vs H Q _ => ∃ (p a : Addr) (ns : List Int) (i d u : Int), vs = [.ref p, .int u] ∧ PenH H p a ns i d ∧ i < 2 ^ 40 ∧ 1 ≤ u ∧ u < 1000000 ∧
  ∀ (g i' d' : Int) (H' : Hp), 0 ≤ g → g < u → i ≤ i' → i' ≤ i + 1 → PenH H' p a ns i' d' → But p H H' → Q (.int g) H'
structure PenT (mg : Str → Option Value) (fN : Addr) : Prop where
  gN : mg "_law_next" = some (.ref fN)
  len : mg "len" = none
  list : mg "list" = none
  int : mg "int" = none
/-- a statement, then the rest, with a word between them -/
def tCut (t u : TS) : TS := fun D σ H => ∃ Mid : L2.St → Hp → Prop, t { D with nx := Mid } σ H ∧ ∀ σ' H', Mid σ' H' → u D σ' H'
theorem pss_cut {X : Cx} {st : Stmt} {rest : List Stmt} {t u : TS} (h1 : PS X st t) (h2 : PSs X rest u) : PSs X (st :: rest) (tCut t u) := by
  refine ⟨fun pins s σ H D I h => ?_⟩
  obtain ⟨Mid, hm, hu⟩ := h
  refine wpAny_execs_cons (thn (h1.run pins s σ H { D with nx := Mid } I hm) fun f s1 q => ?_)
  cases f with
  | next =>
    obtain ⟨σ', H', I', q⟩ := q
    exact h2.run pins s1 σ' H' D I' (hu σ' H' q)
  | ret v => exact q
  | brk => exact q
  | cont => exact q
theorem pen_ne {ns : List Int} {a : Addr} {i d : Int} (h : some (HO.lst [.ref a, .int i, .int d]) = some (.lst (ns.map V.int))) : False := by
  cases ns with
  | nil => cases h
  | cons n r => cases h
theorem dp_ints (K : PySem.W.Frag) (H : Hp) : ∀ ns : List Int, DpAll K H (ns.map V.int) (ns.map PyData.int)
  | [] => .nil
  | n :: r => .cons (.int n) (dp_ints K H r)
theorem shaped_ints (ns : List Int) : SeqAt.shaped (.list (ns.map PyData.int)) = true := by
  induction ns with
  | nil => rfl
  | cons n r ih => exact ih
theorem fmA (x : Int) : -(2 ^ 64) < x.fmod 2147483587 ∧ x.fmod 2147483587 < 2 ^ 64 := by
  rw [Int.fmod_eq_emod_of_nonneg _ (by omega)]
  omega
theorem fmB (x : Int) : -(2 ^ 64) < x.fmod 2147483563 ∧ x.fmod 2147483563 < 2 ^ 64 := by
  rw [Int.fmod_eq_emod_of_nonneg _ (by omega)]
  omega
section
variable {P : Program} {w : World} {K : PySem.W.Frag} {mg : Str → Option Value} {base : Heap} {f fN : Addr} {fd fdN : FuncData}
theorem scPen : FnScope ["script"] ["script"] (defScope sPen) := ⟨rfl, rfl, rfl, by decide +kernel, rfl, by decide +kernel, by decide +kernel⟩
theorem ok_pen (T : PenT mg fN) (F : FnP K "_law_pen" sPen f fd) : FnOk P w K mg base CX0 1 f fd ["script"] (spPen K) := by
  refine F.ok scPen (fun vs H Q E h => ?_) (fun cdv A outer s H vs Q E hr h => ⟨_, PSs.nox (pss_one (ps_ret (pe_lst (pa_cons (pe_callTy call_list_of (by rfl) T.list (by decide +kernel) (pa_cons (pe_slice sl_list (pv 0) po_none (po_some pe_int)) pa_nil)) (pa_cons pe_int (pa_cons pe_int pa_nil)))))), ?_⟩)
  · obtain ⟨s, ns, rfl, _⟩ := h
    rfl
  · obtain ⟨s, ns, rfl, hS, k⟩ := h
    refine ⟨_, rfl, 60, rfl, s, _, rfl, hS, fun p0 n0 => ?_⟩
    refine ⟨p0, _, rfl, .inl (SqL.of upd_same), fun l hl => ?_⟩
    refine ⟨by show 3 ≤ sizeLine; decide, fun p hp => ?_⟩
    have nl : l ≠ p0 := fun e => by rw [e, upd_same] at hl; cases hl
    rw [upd_ne nl] at hl
    have npl : p ≠ l := fun e => by rw [e, upd_same] at hp; cases hp
    rw [upd_ne npl] at hp
    have np0 : p ≠ p0 := fun e => by rw [e, upd_same] at hp; cases hp
    rw [upd_ne np0] at hp
    have h60 : HT.sIx (ns.map V.int).length (ns.map V.int).length (some 60) ≤ 60 := by
      show (if (60 : Int) < 0 then ((60 : Int) + ((ns.map V.int).length : Int)).toNat else min (60 : Int).toNat (ns.map V.int).length) ≤ 60
      rw [if_neg (by decide)]
      exact Nat.min_le_left _ _
    refine k p l (((ns.drop (HT.sIx (ns.map V.int).length 0 none)).take (HT.sIx (ns.map V.int).length (ns.map V.int).length (some 60) - HT.sIx (ns.map V.int).length 0 none))) _ hp ⟨upd_same, ?_, ?_, Int.le_refl 0⟩ ?_
    · rw [upd_ne npl.symm, upd_same, List.map_take, List.map_drop]
      rfl
    · rw [List.length_take]
      omega
    · intro b o e
      rw [upd_ne (ne_of_none e hp), upd_ne (ne_of_none e hl), upd_ne (ne_of_none e n0)]
      exact e
theorem scNext : FnScope ["pen", "index", "cell_here", "some", "more", "high"] ["pen"] (defScope sNext) := ⟨rfl, rfl, rfl, by decide +kernel, rfl, by decide +kernel, by decide +kernel⟩
theorem ok_next (T : PenT mg fN) (F : FnP K "_law_next" sNext f fd) : FnOk P w K mg base CX0 1 f fd ["pen"] spNext := by
  refine F.ok scNext (fun vs H Q E h => ?_) (fun cdv A outer s H vs Q E hr h => ⟨_, PSs.nox (pss_cons (ps_set (i := 1) scNext.nd rfl (Or.inl rfl) (pe_ix ix_list (pv 0) pe_int (fun _ _ => rfl)))
    (pss_cons (ps_asg (pe_op op_add (pv 1) pe_int) (pg_sub (pv 0) pe_int set_list))
    (pss_cons (ps_set (i := 2) scNext.nd rfl (Or.inl rfl) (pe_op op_add (pe_op op_mul (pv 1) pe_int) pe_int))
    (pss_cut (ps_if (pt_cmpR (op_neD hr.units) (pe_ix ix_list (pv 0) pe_int (fun _ _ => rfl)) (pe_lst pa_nil) (nomark _))
      (pss_one (ps_set (i := 2) scNext.nd rfl (Or.inl rfl) (pe_ix ix_list (pe_ix ix_list (pv 0) pe_int (fun _ _ => rfl)) (pe_op op_modN (pe_callTy call_int1 (by rfl) T.int (by decide +kernel) (pa_cons (pv 1) pa_nil)) (pe_callB call_len_seq (by rfl) T.len PySem.boot_len (pa_cons (pe_ix ix_list (pv 0) pe_int (fun _ _ => rfl)) pa_nil))) (fun _ _ => rfl)))) pss_nil)
    (pss_cut (ps_if (PW.pt (pw_and (pt_cmpR op_lt (pv 1) (pe_callB call_len_seq (by rfl) T.len PySem.boot_len (pa_cons (pe_ix ix_list (pv 0) pe_int (fun _ _ => rfl)) pa_nil)) (nomark _)) (pw_and1 (pt_cmpR op_ge (pv 2) (pe_op op_pow pe_int pe_int) (nomark _)))))
      (pss_one (ps_ret (pv 2))) pss_nil)
    (pss_cons (ps_set (i := 3) scNext.nd rfl (Or.inl rfl) (pe_op op_modN (pe_callTy call_int1 (by rfl) T.int (by decide +kernel) (pa_cons (pe_op op_add (pe_op op_add (pe_op op_modN (pe_callTy call_int1 (by rfl) T.int (by decide +kernel) (pa_cons (pv 2) pa_nil)) pe_int) (pe_op op_mul (pv 1) pe_int)) pe_int) pa_nil)) pe_int))
    (pss_cons (ps_set (i := 4) scNext.nd rfl (Or.inl rfl) (pe_op op_modN (pe_callTy call_int1 (by rfl) T.int (by decide +kernel) (pa_cons (pe_op op_add (pe_op op_add (pe_op op_mul (pv 3) (pv 3)) (pe_op op_mul (pv 1) pe_int)) pe_int) pa_nil)) pe_int))
    (pss_cons (ps_set (i := 5) scNext.nd rfl (Or.inl rfl) (pe_op op_modN (pe_callTy call_int1 (by rfl) T.int (by decide +kernel) (pa_cons (pe_op op_add (pe_op op_add (pe_op op_mul (pv 4) (pv 4)) (pv 3)) (pe_op op_mul (pe_op op_mul (pv 1) (pv 1)) pe_int)) pa_nil)) pe_int))
    (pss_one (ps_ret (pe_op op_add (pe_op op_mul (pe_op op_add (pe_op op_mul (pv 5) pe_int) (pv 4)) pe_int) (pv 3)))))))))))), ?_⟩)
  · obtain ⟨p, a, ns, i, d, rfl, _⟩ := h
    rfl
  · obtain ⟨p, a, ns, i, d, rfl, ⟨hp, ha, hl, h0⟩, hi, k⟩ := h
    refine ⟨_, rfl, p, _, 1, .int i, rfl, rfl, SqL.of hp, at_of (j := 1) rfl rfl, ?_⟩
    refine ⟨_, rfl, i, 1, rfl, rfl, _, rfl, p, _, 1, 1, rfl, rfl, hp, rfl, ?_⟩
    refine ⟨_, rfl, i, 1051, rfl, rfl, .inr ⟨by decide, by decide⟩, i * 1051, 53, rfl, rfl, ?_⟩
    have nap : a ≠ p := fun e => by rw [e, hp] at ha; exact pen_ne ha
    have hp1 : (upd H p (.lst [.ref a, .int (i + 1), .int d])) p = some (.lst [.ref a, .int (i + 1), .int d]) := upd_same
    have ha1 : (upd H p (.lst [.ref a, .int (i + 1), .int d])) a = some (.lst (ns.map V.int)) := by rw [upd_ne nap]; exact ha
    have b1 : But p H (upd H p (.lst [.ref a, .int (i + 1), .int d])) := But.set
    refine ⟨fun σ' H' => ∃ c : Int, σ' = [some (.ref p), some (.int i), some (.int c), none, none, none] ∧ H' p = some (.lst [.ref a, .int (i + 1), .int d]) ∧ H' a = some (.lst (ns.map V.int)) ∧ But p H H', ?_, ?_⟩
    · refine ⟨_, rfl, p, _, 0, .ref a, rfl, rfl, SqL.of hp1, at_of (j := 0) rfl rfl, ?_⟩
      refine ⟨by show 0 ≤ sizeLine; decide, fun q hq => ?_⟩
      have nqp : p ≠ q := ne_of_none hp1 hq
      have nqa : a ≠ q := ne_of_none ha1 hq
      refine ⟨.list (ns.map PyData.int), .list [], .lst (SqL.of (by rw [upd_ne nqa]; exact ha1)) (dp_ints _ _ ns), .lst (SqL.of upd_same) .nil, shaped_ints ns, rfl, _, rfl, ?_⟩
      have b2 : But p H (upd (upd H p (.lst [.ref a, .int (i + 1), .int d])) q (.lst [])) := b1.trans (But.new hq)
      cases ns with
      | nil => exact ⟨_, rfl, by rw [upd_ne nqp]; exact hp1, by rw [upd_ne nqa]; exact ha1, b2⟩
      | cons n r =>
        refine ⟨_, rfl, p, _, 0, .ref a, rfl, rfl, SqL.of (by rw [upd_ne nqp]; exact hp1), at_of (j := 0) rfl rfl, ?_⟩
        have nz : (((n :: r).map V.int).length : Int) ≠ 0 := by simp only [List.length_map, List.length_cons]; omega
        have hm0 : 0 ≤ i.fmod (((n :: r).map V.int).length : Int) := by rw [Int.fmod_eq_emod_of_nonneg _ (by omega)]; exact Int.emod_nonneg _ nz
        have hm1 : i.fmod (((n :: r).map V.int).length : Int) < (((n :: r).map V.int).length : Int) := by rw [Int.fmod_eq_emod_of_nonneg _ (by omega)]; exact Int.emod_lt_of_pos _ (by omega)
        obtain ⟨j, ej⟩ : ∃ j : Nat, i.fmod (((n :: r).map V.int).length : Int) = (j : Int) := ⟨(i.fmod (((n :: r).map V.int).length : Int)).toNat, by omega⟩
        have hj : j < (n :: r).length := by rw [ej] at hm1; rw [List.length_map] at hm1; omega
        refine ⟨_, rfl, .inl ⟨i, rfl, _, rfl, p, _, 0, .ref a, rfl, rfl, SqL.of (by rw [upd_ne nqp]; exact hp1), at_of (j := 0) rfl rfl, a, _, rfl, .inl (SqL.of (by rw [upd_ne nqa]; exact ha1)), _, _, rfl, rfl, nz, a, _, _, .int ((n :: r)[j]), rfl, rfl, SqL.of (by rw [upd_ne nqa]; exact ha1), at_of ej (by rw [List.getElem?_map, List.getElem?_eq_getElem hj]; rfl), ?_⟩⟩
        exact ⟨_, rfl, by rw [upd_ne nqp]; exact hp1, by rw [upd_ne nqa]; exact ha1, b2⟩
    · rintro σ' H' ⟨c, rfl, hp', ha', b'⟩
      refine ⟨fun σ2 H2 => σ2 = [some (.ref p), some (.int i), some (.int c), none, none, none] ∧ H2 = H', ?_, ?_⟩
      · refine ⟨_, rfl, _, rfl, p, _, 0, .ref a, rfl, rfl, SqL.of hp', at_of (j := 0) rfl rfl, a, _, rfl, .inl (SqL.of ha'), i, _, rfl, rfl, _, rfl, ?_⟩
        refine ite2 (fun _ => ?_) (fun _ => iteF ⟨rfl, rfl⟩)
        refine ⟨_, rfl, 10, 18, rfl, rfl, ⟨by decide, by decide, by decide⟩, c, _, rfl, rfl, _, rfl, ?_⟩
        refine ite2 (fun _ => ?_) (fun _ => ⟨rfl, rfl⟩)
        exact ⟨_, rfl, k c H' ⟨hp', ha', hl, by omega⟩ b'⟩
      · rintro σ2 H2 ⟨rfl, rfl⟩
        refine ⟨_, rfl, .inl ⟨c, rfl, c, 2147483587, rfl, rfl, (by decide : (2147483587 : Int) ≠ 0), _, rfl, i, 30103, rfl, rfl, .inr ⟨by decide, by decide⟩, _, _, rfl, rfl, _, 79, rfl, rfl, .inl ⟨_, rfl, _, 2147483587, rfl, rfl, (by decide : (2147483587 : Int) ≠ 0), ?_⟩⟩⟩
        refine ⟨_, rfl, _, rfl, _, _, rfl, rfl, .inl (fmA _), _, rfl, i, 70039, rfl, rfl, .inr ⟨by decide, by decide⟩, _, _, rfl, rfl, _, 61, rfl, rfl, .inl ⟨_, rfl, _, 2147483563, rfl, rfl, (by decide : (2147483563 : Int) ≠ 0), ?_⟩⟩
        refine ⟨_, rfl, _, rfl, _, _, rfl, rfl, .inl (fmB _), _, rfl, _, _, rfl, rfl, _, rfl, _, rfl, i, i, rfl, rfl, .inl ⟨by omega, by omega⟩, _, 37, rfl, rfl, .inr ⟨by decide, by decide⟩, _, _, rfl, rfl, .inl ⟨_, rfl, _, 2147483549, rfl, rfl, (by decide : (2147483549 : Int) ≠ 0), ?_⟩⟩
        refine ⟨_, rfl, _, 2147483587, rfl, rfl, .inr ⟨by decide, by decide⟩, _, rfl, _, _, rfl, rfl, _, 2147483563, rfl, rfl, .inr ⟨by decide, by decide⟩, _, rfl, _, _, rfl, rfl, ?_⟩
        exact k _ _ ⟨hp', ha', hl, by omega⟩ b'
theorem scDraw : FnScope ["pen", "under", "digit"] ["pen", "under"] (defScope sDraw) := ⟨rfl, rfl, rfl, by decide +kernel, rfl, by decide +kernel, by decide +kernel⟩
theorem ok_draw (T : PenT mg fN) (FN : FnP K "_law_next" sNext fN fdN) (F : FnP K "_law_draw" sDraw f fd) : FnOk P w K mg base CX0 2 f fd ["pen", "under"] spDraw := by
  have GN : FnOk P w K mg base CX0 1 fN fdN ["pen"] spNext := ok_next T FN
  have bN : Binds K fdN ["pen"] [] := FN.bindsN fun _ _ _ _ _ _ us hl => match us, hl with | [_], _ => rfl
  refine F.ok scDraw (fun vs H Q E h => ?_) (fun cdv A outer s H vs Q E hr h => ⟨_, PSs.nox (pss_cut (ps_if (pt_cmpR op_lt (pe_ix ix_list (pv 0) pe_int (fun _ _ => rfl)) (pv 1) (nomark _))
      (pss_one (ps_asg (pe_call GN hr rfl T.gN FN.kp bN .nil pass0 (pa_cons (pv 0) pa_nil)) (pg_sub (pv 0) pe_int set_list))) pss_nil)
    (pss_cons (ps_set (i := 2) scDraw.nd rfl (Or.inl rfl) (pe_op op_modN (pe_callTy call_int1 (by rfl) T.int (by decide +kernel) (pa_cons (pe_ix ix_list (pv 0) pe_int (fun _ _ => rfl)) pa_nil)) (pv 1)))
    (pss_cons (ps_asg (pe_op op_fdivN (pe_ix ix_list (pv 0) pe_int (fun _ _ => rfl)) (pv 1)) (pg_sub (pv 0) pe_int set_list))
    (pss_one (ps_ret (pv 2)))))), ?_⟩)
  · obtain ⟨p, a, ns, i, d, u, rfl, _⟩ := h
    rfl
  · obtain ⟨p, a, ns, i, d, u, rfl, hP, hi, u1, u2, k⟩ := h
    have hP' := hP
    obtain ⟨hp, ha, hl, h0⟩ := hP'
    refine ⟨fun σ' H' => ∃ (i' d' : Int), σ' = [some (.ref p), some (.int u), none] ∧ i ≤ i' ∧ i' ≤ i + 1 ∧ PenH H' p a ns i' d' ∧ But p H H', ?_, ?_⟩
    · refine ⟨_, rfl, p, _, 2, .int d, rfl, rfl, SqL.of hp, at_of (j := 2) rfl rfl, _, rfl, d, u, rfl, rfl, _, rfl, ?_⟩
      refine ite2 (fun _ => ?_) (fun _ => ⟨i, d, rfl, by omega, by omega, hP, But.refl H⟩)
      refine ⟨_, rfl, p, a, ns, i, d, rfl, hP, hi, fun z H1 h1 b1 => ?_⟩
      obtain ⟨hp1, ha1, hl1, h01⟩ := h1
      have nap : a ≠ p := fun e => by rw [e, hp1] at ha1; exact pen_ne ha1
      refine ⟨_, rfl, p, _, 2, 2, rfl, rfl, hp1, rfl, ?_⟩
      exact ⟨i + 1, z, rfl, by omega, by omega, ⟨upd_same, by rw [upd_ne nap]; exact ha1, hl1, h01⟩, b1.trans But.set⟩
    · rintro σ' H' ⟨i', d', rfl, hi1, hi2, ⟨hp', ha', hl', h0'⟩, b'⟩
      have nap : a ≠ p := fun e => by rw [e, hp'] at ha'; exact pen_ne ha'
      have g0 : 0 ≤ d'.fmod u := by rw [Int.fmod_eq_emod_of_nonneg _ (by omega)]; exact Int.emod_nonneg _ (by omega)
      have g1 : d'.fmod u < u := by rw [Int.fmod_eq_emod_of_nonneg _ (by omega)]; exact Int.emod_lt_of_pos _ (by omega)
      refine ⟨_, rfl, p, _, 2, .int d', rfl, rfl, SqL.of hp', at_of (j := 2) rfl rfl, .inl ⟨d', rfl, _, rfl, d', u, rfl, rfl, by omega, ?_⟩⟩
      refine ⟨_, rfl, p, _, 2, .int d', rfl, rfl, SqL.of hp', at_of (j := 2) rfl rfl, _, rfl, d', u, rfl, rfl, ⟨by omega, by omega⟩, _, rfl, p, _, 2, 2, rfl, rfl, hp', rfl, ?_⟩
      exact ⟨_, rfl, k _ i' _ _ g0 g1 hi1 hi2 ⟨upd_same, by rw [upd_ne nap]; exact ha', hl', h0'⟩ (b'.trans But.set)⟩
end
end K33
set_option Elab.async false
set_option linter.all false
set_option maxRecDepth 100000
set_option maxHeartbeats 4000000
namespace K33
open PySem PySem.Spec PyProof.Rows L2
structure ET (P : Program) (K : PySem.W.Frag) (mg : Str → Option Value) : Prop where
  gl : ∀ x : Str, x ∈ allx → mg x = some (.ref (He.ga K x))
  own : ∀ x : Str, x ∈ allx.filter (fun x => decide (x ≠ ("ParseError" : Str))) → PySem.W.excIn K (He.ga K x) He.veBase "ValueError.__new__" = true ∧ PySem.W.keepIn K (.ref (He.ga K x)) = true
  xc : ∀ x : Str, x ∈ allx → ExC K (He.ga K x)
  kit : ∀ x : Str, x ∈ allx → ∀ y ∈ excs, PySem.W.kitOne K (.ref (He.ga K x)) (.ref (He.ga K y)) = some (decide (x = y))
  kitA : ∀ x : Str, x ∈ excs → PySem.W.kitOne K (.ref (He.ga K x)) (.ref (He.ga K "ApartError")) = some true
  kitV : ∀ x : Str, x ∈ excs → PySem.W.kitOne K (.ref (He.ga K x)) (.type "ValueError") = some true
  pt : ∃ fI, PySem.Px.PTxt P K mg (He.ga K "ParseError") fI
  isi : mg "isinstance" = none
  any : mg "any" = none
  VE : mg "ValueError" = none
/-- the error of the class named c stands at a; of ParseError: with its line -/
def ExAt (K : PySem.W.Frag) (n : Int) (H : Hp) (a : Addr) (c : Str) : Prop :=
  (c ≠ "ParseError" ∧ H a = some (ExO (.ref (He.ga K c)) a)) ∨ (c = "ParseError" ∧ ∃ d, H a = some (ExD (.ref (He.ga K c)) d a) ∧ H d = some (.xd [(("line" : Str), .int n)]))
theorem ExAt.same {K : PySem.W.Frag} {n : Int} {H H' : Hp} {a : Addr} {c : Str} (h : ExAt K n H a c) (s : Same H H') : ExAt K n H' a c := by
  rcases h with ⟨h1, h2⟩ | ⟨h1, d, h2, h3⟩
  · exact .inl ⟨h1, s _ _ h2⟩
  · exact .inr ⟨h1, d, s _ _ h2, s _ _ h3⟩
theorem IsEx.same {H H' : Hp} {a D : Addr} (h : IsEx H a D) (s : Same H H') : IsEx H' a D := by
  rcases h with h | ⟨d, fs, h, h2⟩
  · exact .inl (s _ _ h)
  · exact .inr ⟨d, fs, s _ _ h, s _ _ h2⟩
theorem ExAt.is {K : PySem.W.Frag} {n : Int} {H : Hp} {a : Addr} {c : Str} (h : ExAt K n H a c) : IsEx H a (He.ga K c) := by
  rcases h with ⟨_, h⟩ | ⟨_, d, h2, h3⟩
  · exact .inl h
  · exact .inr ⟨d, _, h2, h3⟩
def spOf (K : PySem.W.Frag) : Sp := fun vs H Q _ => ∃ (a : Addr) (c : Str), vs = [.ref a] ∧ c ∈ allx ∧ IsEx H a (He.ga K c) ∧
  ∀ (l : Addr) (H' : Hp), H l = none → H' l = some (.lst (excs.map fun x => .bl (decide (c = x)))) → Same H H' → Q (.ref l) H'
def AllEx (K : PySem.W.Frag) (n : Int) (H : Hp) (as : List V) (cs : List Str) : Prop := as.length = cs.length ∧ ∀ (i : Nat) (c : Str), cs[i]? = some c → ∃ a, as[i]? = some (.ref a) ∧ ExAt K n H a c
def spErr (K : PySem.W.Frag) : Sp := fun vs H Q _ => ∃ (z : Str) (n : Int), vs = [.str z, .int n] ∧ n.natAbs.log2 < 1920 ∧
  ∀ (l : Addr) (as : List V) (H' : Hp), H' l = some (.lst as) → AllEx K n H' as excs → Same H H' → Q (.ref l) H'
/-! ### the lists of isinstance -/
abbrev tIs (K : PySem.W.Frag) (c : Str) : TE := tCB (rIsX K) (tCons (tVar 0) (tCons (tC (.ref (He.ga K c))) tNil))
abbrev tIss (K : PySem.W.Frag) (cs : List Str) : TA := cs.foldr (fun c r => tCons (tIs K c) r) tNil
theorem iss {K : PySem.W.Frag} {a : Addr} {c : Str} {σ : L2.St} {H : Hp} (hσ : σ[0]? = some (some (.ref a))) (hx : IsEx H a (He.ga K c)) (C : ExC K (He.ga K c)) :
    ∀ (cs : List Str) (Q : List V → Hp → Prop), (∀ y ∈ cs, PySem.W.kitOne K (.ref (He.ga K c)) (.ref (He.ga K y)) = some (decide (c = y))) → Q (cs.map fun x => .bl (decide (c = x))) H → tIss K cs σ H Q
  | [], Q, _, q => q
  | y :: r, Q, hk, q => by
    refine ⟨_, hσ, a, _, _, _, _, rfl, hx, C, .own _, hk y List.mem_cons_self, ?_⟩
    exact iss hσ hx C r _ (fun z hz => hk z (List.mem_cons_of_mem _ hz)) q
theorem len_map_le {cs : List Str} {c : Str} (h : cs.length ≤ 100) : (cs.map fun x => V.bl (decide (c = x))).length ≤ sizeLine := by
  rw [List.length_map]
  exact Nat.le_trans h (by decide)
theorem is_first {K : PySem.W.Frag} {a : Addr} {c : Str} {σ : L2.St} {H : Hp} {Q : VK} (cs : List Str) (hσ : σ[0]? = some (some (.ref a))) (hx : IsEx H a (He.ga K c)) (C : ExC K (He.ga K c))
    (hk : ∀ y ∈ cs, PySem.W.kitOne K (.ref (He.ga K c)) (.ref (He.ga K y)) = some (decide (c = y))) (hz : cs.length ≤ 100) (q : ∀ p, H p = none → Q (.ref p) (upd H p (.lst (cs.map fun x => .bl (decide (c = x)))))) : tLst (tIss K cs) σ H Q :=
  iss hσ hx C cs _ hk ⟨len_map_le hz, q⟩
theorem is_more {K : PySem.W.Frag} {a l : Addr} {c : Str} {σ : L2.St} {H : Hp} {Q : VK} (cs ds : List Str) (hσ : σ[0]? = some (some (.ref a))) (h1 : σ[1]? = some (some (.ref l))) (hl : H l = some (.lst (cs.map fun x => .bl (decide (c = x))))) (hx : IsEx H a (He.ga K c)) (C : ExC K (He.ga K c))
    (hk : ∀ y ∈ ds, PySem.W.kitOne K (.ref (He.ga K c)) (.ref (He.ga K y)) = some (decide (c = y))) (hz : cs.length ≤ 100) (hz2 : ds.length ≤ 100)
    (q : ∀ (m : Addr) (H' : Hp), H m = none → H' m = some (.lst ((cs ++ ds).map fun x => .bl (decide (c = x)))) → Same H H' → Q (.ref m) H') : tOp rCat (tVar 1) (tLst (tIss K ds)) σ H Q := by
  refine ⟨_, h1, iss hσ hx C ds _ hk ⟨len_map_le hz2, fun p hp => ?_⟩⟩
  have npl : l ≠ p := ne_of_none hl hp
  refine ⟨l, p, _, _, rfl, rfl, by rw [upd_ne npl]; exact hl, upd_same, ?_, fun m hm => ?_⟩
  · rw [List.length_map, List.length_map]
    exact Nat.le_trans (Nat.add_le_add hz hz2) (by decide)
  · have s1 : Same H (upd H p (.lst (ds.map fun x => .bl (decide (c = x))))) := fun b o e => by rw [upd_ne (ne_of_none e hp)]; exact e
    refine q m _ (s1.free hm) ?_ (s1.trans fun b o e => by rw [upd_ne (ne_of_none e hm)]; exact e)
    rw [upd_same, List.map_append]
theorem s_isFirst {K : PySem.W.Frag} {a : Addr} {c : Str} {σ : L2.St} {H : Hp} {D : Ends} {u : TS} (cs : List Str) (hσ : σ[0]? = some (some (.ref a))) (hx : IsEx H a (He.ga K c)) (C : ExC K (He.ga K c))
    (hk : ∀ y ∈ cs, PySem.W.kitOne K (.ref (He.ga K c)) (.ref (He.ga K y)) = some (decide (c = y))) (hz : cs.length ≤ 100) (q : ∀ p, H p = none → u D (σ.set 1 (some (.ref p))) (upd H p (.lst (cs.map fun x => .bl (decide (c = x)))))) : tSeq (tAsg (tLst (tIss K cs)) (gName 1)) u D σ H :=
  is_first (Q := fun x H1 => u D (σ.set 1 (some x)) H1) cs hσ hx C hk hz q
theorem s_isMore {K : PySem.W.Frag} {a l : Addr} {c : Str} {σ : L2.St} {H : Hp} {D : Ends} {u : TS} (cs ds : List Str) (hσ : σ[0]? = some (some (.ref a))) (h1 : σ[1]? = some (some (.ref l))) (hl : H l = some (.lst (cs.map fun x => .bl (decide (c = x))))) (hx : IsEx H a (He.ga K c)) (C : ExC K (He.ga K c))
    (hk : ∀ y ∈ ds, PySem.W.kitOne K (.ref (He.ga K c)) (.ref (He.ga K y)) = some (decide (c = y))) (hz : cs.length ≤ 100) (hz2 : ds.length ≤ 100)
    (q : ∀ (m : Addr) (H' : Hp), H m = none → H' m = some (.lst ((cs ++ ds).map fun x => .bl (decide (c = x)))) → Same H H' → u D (σ.set 1 (some (.ref m))) H') : tSeq (tAsg (tOp rCat (tVar 1) (tLst (tIss K ds))) (gName 1)) u D σ H :=
  is_more (Q := fun x H1 => u D (σ.set 1 (some x)) H1) cs ds hσ h1 hl hx C hk hz hz2 q
theorem s_isRet {K : PySem.W.Frag} {a l : Addr} {c : Str} {σ : L2.St} {H : Hp} {D : Ends} (cs ds : List Str) (hσ : σ[0]? = some (some (.ref a))) (h1 : σ[1]? = some (some (.ref l))) (hl : H l = some (.lst (cs.map fun x => .bl (decide (c = x))))) (hx : IsEx H a (He.ga K c)) (C : ExC K (He.ga K c))
    (hk : ∀ y ∈ ds, PySem.W.kitOne K (.ref (He.ga K c)) (.ref (He.ga K y)) = some (decide (c = y))) (hz : cs.length ≤ 100) (hz2 : ds.length ≤ 100)
    (q : ∀ (m : Addr) (H' : Hp), H m = none → H' m = some (.lst ((cs ++ ds).map fun x => .bl (decide (c = x)))) → Same H H' → D.rt (.ref m) H') : tRet (tOp rCat (tVar 1) (tLst (tIss K ds))) D σ H :=
  is_more (Q := D.rt) cs ds hσ h1 hl hx C hk hz hz2 q
/-! ### the lists of errors -/
abbrev tOne (te : TE) : TE := fun σ H Q => te σ H Q
/-- te makes an error of the class named c -/
def Makes (K : PySem.W.Frag) (n : Int) (σ : L2.St) (te : TE) (c : Str) : Prop := ∀ (H : Hp) (Q : VK), (∀ a H', ExAt K n H' a c → Same H H' → Q (.ref a) H') → te σ H Q
theorem makes_plain {K : PySem.W.Frag} {n : Int} {σ : L2.St} {c : Str} {z : V} {i : Nat} (hc : c ≠ "ParseError") (h : σ[i]? = some (some z)) :
    Makes K n σ (fun σ H Q => tVar i σ H fun _ H1 => ∀ a, H1 a = none → Q (.ref a) (upd H1 a (ExO (.ref (He.ga K c)) a))) c := fun H Q q =>
  ⟨z, h, fun a ha => q a _ (.inl ⟨hc, upd_same⟩) fun b o e => by rw [upd_ne (ne_of_none e ha)]; exact e⟩
theorem makes_parse {K : PySem.W.Frag} {n : Int} {σ : L2.St} {i : Nat} (h : σ[i]? = some (some (.int n))) (hn : n.natAbs.log2 < 1920) : Makes K n σ (tParse (He.ga K "ParseError") (tVar i)) "ParseError" := fun H Q q =>
  ⟨_, h, n, rfl, hn, fun a d ha hd ne => q a _ (.inr ⟨rfl, d, upd_same, by rw [upd_ne ne.symm, upd_same]⟩) fun b o e => by rw [upd_ne (ne_of_none e ha), upd_ne (ne_of_none e hd)]; exact e⟩
inductive MakesAll (K : PySem.W.Frag) (n : Int) (σ : L2.St) : TA → List Str → Prop where
  | nil : MakesAll K n σ tNil []
  | cons {te : TE} {c : Str} {ta : TA} {cs : List Str} (h : Makes K n σ te c) (r : MakesAll K n σ ta cs) : MakesAll K n σ (tCons te ta) (c :: cs)
theorem AllEx.same {K : PySem.W.Frag} {n : Int} {H H' : Hp} {as : List V} {cs : List Str} (h : AllEx K n H as cs) (s : Same H H') : AllEx K n H' as cs :=
  ⟨h.1, fun i c e => let ⟨a, h1, h2⟩ := h.2 i c e; ⟨a, h1, h2.same s⟩⟩
theorem AllEx.nil {K : PySem.W.Frag} {n : Int} {H : Hp} : AllEx K n H [] [] := ⟨rfl, fun i c e => by simp at e⟩
theorem AllEx.cons {K : PySem.W.Frag} {n : Int} {H : Hp} {a : Addr} {c : Str} {as : List V} {cs : List Str} (h : ExAt K n H a c) (r : AllEx K n H as cs) : AllEx K n H (.ref a :: as) (c :: cs) :=
  ⟨congrArg Nat.succ r.1, fun i d e => by
    cases i with
    | zero =>
      have e' : c = d := Option.some.inj e
      subst e'
      exact ⟨a, rfl, h⟩
    | succ i => exact r.2 i d e⟩
theorem AllEx.append {K : PySem.W.Frag} {n : Int} {H : Hp} {as bs : List V} {cs ds : List Str} (h : AllEx K n H as cs) (r : AllEx K n H bs ds) : AllEx K n H (as ++ bs) (cs ++ ds) := by
  refine ⟨by rw [List.length_append, List.length_append, h.1, r.1], fun i c e => ?_⟩
  by_cases hi : i < cs.length
  · rw [List.getElem?_append_left hi] at e
    obtain ⟨a, h1, h2⟩ := h.2 i c e
    exact ⟨a, by rw [List.getElem?_append_left (by rw [h.1]; exact hi)]; exact h1, h2⟩
  · rw [List.getElem?_append_right (by omega)] at e
    obtain ⟨a, h1, h2⟩ := r.2 _ c e
    exact ⟨a, by rw [List.getElem?_append_right (by rw [h.1]; omega), h.1]; exact h1, h2⟩
theorem made {K : PySem.W.Frag} {n : Int} {σ : L2.St} {ta : TA} {cs : List Str} (m : MakesAll K n σ ta cs) : ∀ (H : Hp) (Q : List V → Hp → Prop), (∀ as H', AllEx K n H' as cs → Same H H' → Q as H') → ta σ H Q := by
  induction m with
  | nil => exact fun H Q q => q [] H .nil (Same.refl H)
  | cons h r ih =>
    intro H Q q
    exact h H _ fun a H1 e1 s1 => ih H1 _ fun as H2 e2 s2 => q _ H2 (.cons (e1.same s2) e2) (s1.trans s2)
theorem err_first {K : PySem.W.Frag} {n : Int} {σ : L2.St} {H : Hp} {Q : VK} {ta : TA} {cs : List Str} (m : MakesAll K n σ ta cs) (hz : cs.length ≤ 100) (q : ∀ (l : Addr) (as : List V) (H' : Hp), H' l = some (.lst as) → AllEx K n H' as cs → Same H H' → Q (.ref l) H') : tLst ta σ H Q := by
  refine made m H _ fun as H1 e1 s1 => ⟨?_, fun p hp => ?_⟩
  · rw [e1.1]
    exact Nat.le_trans hz (by decide)
  · have s2 : Same H1 (upd H1 p (.lst as)) := fun b o e => by rw [upd_ne (ne_of_none e hp)]; exact e
    exact q p as _ upd_same (e1.same s2) (s1.trans s2)
theorem err_more {K : PySem.W.Frag} {n : Int} {σ : L2.St} {H : Hp} {Q : VK} {ta : TA} {cs ds : List Str} {l : Addr} {as : List V} (m : MakesAll K n σ ta ds) (h2 : σ[2]? = some (some (.ref l))) (hl : H l = some (.lst as)) (ha : AllEx K n H as cs) (hz : cs.length ≤ 100) (hz2 : ds.length ≤ 100)
    (q : ∀ (l : Addr) (as : List V) (H' : Hp), H' l = some (.lst as) → AllEx K n H' as (cs ++ ds) → Same H H' → Q (.ref l) H') : tOp rCat (tVar 2) (tLst ta) σ H Q := by
  refine ⟨_, h2, err_first m hz2 fun p bs H1 hp e1 s1 => ?_⟩
  refine ⟨l, p, as, bs, rfl, rfl, s1 _ _ hl, hp, ?_, fun m hm => ?_⟩
  · rw [ha.1, e1.1]
    exact Nat.le_trans (Nat.add_le_add hz hz2) (by decide)
  · have s2 : Same H1 (upd H1 m (.lst (as ++ bs))) := fun b o e => by rw [upd_ne (ne_of_none e hm)]; exact e
    exact q m _ _ upd_same (((ha.same s1).append e1).same s2) (s1.trans s2)
theorem s_errFirst {K : PySem.W.Frag} {n : Int} {σ : L2.St} {H : Hp} {D : Ends} {u : TS} {ta : TA} (cs : List Str) (m : MakesAll K n σ ta cs) (hz : cs.length ≤ 100)
    (q : ∀ (l : Addr) (as : List V) (H' : Hp), H' l = some (.lst as) → AllEx K n H' as cs → Same H H' → u D (σ.set 2 (some (.ref l))) H') : tSeq (tAsg (tLst ta) (gName 2)) u D σ H :=
  err_first (Q := fun x H1 => u D (σ.set 2 (some x)) H1) m hz q
theorem s_errMore {K : PySem.W.Frag} {n : Int} {σ : L2.St} {H : Hp} {D : Ends} {u : TS} {ta : TA} {l : Addr} {as : List V} (cs ds : List Str) (m : MakesAll K n σ ta ds) (h2 : σ[2]? = some (some (.ref l))) (hl : H l = some (.lst as)) (ha : AllEx K n H as cs) (hz : cs.length ≤ 100) (hz2 : ds.length ≤ 100)
    (q : ∀ (l : Addr) (as : List V) (H' : Hp), H' l = some (.lst as) → AllEx K n H' as (cs ++ ds) → Same H H' → u D (σ.set 2 (some (.ref l))) H') : tSeq (tAsg (tOp rCat (tVar 2) (tLst ta)) (gName 2)) u D σ H :=
  err_more (Q := fun x H1 => u D (σ.set 2 (some x)) H1) m h2 hl ha hz hz2 q
theorem s_errRet {K : PySem.W.Frag} {n : Int} {σ : L2.St} {H : Hp} {D : Ends} {ta : TA} {l : Addr} {as : List V} (cs ds : List Str) (m : MakesAll K n σ ta ds) (h2 : σ[2]? = some (some (.ref l))) (hl : H l = some (.lst as)) (ha : AllEx K n H as cs) (hz : cs.length ≤ 100) (hz2 : ds.length ≤ 100)
    (q : ∀ (l : Addr) (as : List V) (H' : Hp), H' l = some (.lst as) → AllEx K n H' as (cs ++ ds) → Same H H' → D.rt (.ref l) H') : tRet (tOp rCat (tVar 2) (tLst ta)) D σ H :=
  err_more (Q := D.rt) m h2 hl ha hz hz2 q
section
variable {P : Program} {w : World} {K : PySem.W.Frag} {mg : Str → Option Value} {base : Heap} {f fN : Addr} {fd fdN : FuncData}
theorem scOf : FnScope ["caught", "found"] ["caught"] (defScope sOf) := ⟨rfl, rfl, rfl, by decide +kernel, rfl, by decide +kernel, by decide +kernel⟩
theorem ok_of (T : ET P K mg) (F : FnP K "_law_of" sOf f fd) : FnOk P w K mg base CX0 1 f fd ["caught"] (spOf K) := by
  refine F.ok scOf (fun vs H Q E h => ?_) (fun cdv A outer s H vs Q E hr h => ⟨_, PSs.nox (pss_cons (ps_set (i := 1) scOf.nd rfl (Or.inl rfl) (pe_lst (pa_cons (pe_callB call_isX (by rfl) T.isi (by decide +kernel) (pa_cons (pv 0) (pa_cons (pe_glob (v := .ref (He.ga K "BookBroken")) rfl (T.gl "BookBroken" (by decide +kernel)) rfl) pa_nil))) (pa_cons (pe_callB call_isX (by rfl) T.isi (by decide +kernel) (pa_cons (pv 0) (pa_cons (pe_glob (v := .ref (He.ga K "DuplicateName")) rfl (T.gl "DuplicateName" (by decide +kernel)) rfl) pa_nil))) (pa_cons (pe_callB call_isX (by rfl) T.isi (by decide +kernel) (pa_cons (pv 0) (pa_cons (pe_glob (v := .ref (He.ga K "InvalidBook")) rfl (T.gl "InvalidBook" (by decide +kernel)) rfl) pa_nil))) pa_nil)))))
    (pss_cons (ps_set (i := 1) scOf.nd rfl (Or.inl rfl) (pe_op op_cat (pv 1) (pe_lst (pa_cons (pe_callB call_isX (by rfl) T.isi (by decide +kernel) (pa_cons (pv 0) (pa_cons (pe_glob (v := .ref (He.ga K "InvalidCase")) rfl (T.gl "InvalidCase" (by decide +kernel)) rfl) pa_nil))) (pa_cons (pe_callB call_isX (by rfl) T.isi (by decide +kernel) (pa_cons (pv 0) (pa_cons (pe_glob (v := .ref (He.ga K "InvalidCondition")) rfl (T.gl "InvalidCondition" (by decide +kernel)) rfl) pa_nil))) pa_nil)))))
    (pss_cons (ps_set (i := 1) scOf.nd rfl (Or.inl rfl) (pe_op op_cat (pv 1) (pe_lst (pa_cons (pe_callB call_isX (by rfl) T.isi (by decide +kernel) (pa_cons (pv 0) (pa_cons (pe_glob (v := .ref (He.ga K "InvalidCopies")) rfl (T.gl "InvalidCopies" (by decide +kernel)) rfl) pa_nil))) (pa_cons (pe_callB call_isX (by rfl) T.isi (by decide +kernel) (pa_cons (pv 0) (pa_cons (pe_glob (v := .ref (He.ga K "InvalidCopy")) rfl (T.gl "InvalidCopy" (by decide +kernel)) rfl) pa_nil))) pa_nil)))))
    (pss_cons (ps_set (i := 1) scOf.nd rfl (Or.inl rfl) (pe_op op_cat (pv 1) (pe_lst (pa_cons (pe_callB call_isX (by rfl) T.isi (by decide +kernel) (pa_cons (pv 0) (pa_cons (pe_glob (v := .ref (He.ga K "InvalidHeld")) rfl (T.gl "InvalidHeld" (by decide +kernel)) rfl) pa_nil))) (pa_cons (pe_callB call_isX (by rfl) T.isi (by decide +kernel) (pa_cons (pv 0) (pa_cons (pe_glob (v := .ref (He.ga K "InvalidHistory")) rfl (T.gl "InvalidHistory" (by decide +kernel)) rfl) pa_nil))) pa_nil)))))
    (pss_cons (ps_set (i := 1) scOf.nd rfl (Or.inl rfl) (pe_op op_cat (pv 1) (pe_lst (pa_cons (pe_callB call_isX (by rfl) T.isi (by decide +kernel) (pa_cons (pv 0) (pa_cons (pe_glob (v := .ref (He.ga K "InvalidKinds")) rfl (T.gl "InvalidKinds" (by decide +kernel)) rfl) pa_nil))) (pa_cons (pe_callB call_isX (by rfl) T.isi (by decide +kernel) (pa_cons (pv 0) (pa_cons (pe_glob (v := .ref (He.ga K "InvalidLets")) rfl (T.gl "InvalidLets" (by decide +kernel)) rfl) pa_nil))) pa_nil)))))
    (pss_cons (ps_set (i := 1) scOf.nd rfl (Or.inl rfl) (pe_op op_cat (pv 1) (pe_lst (pa_cons (pe_callB call_isX (by rfl) T.isi (by decide +kernel) (pa_cons (pv 0) (pa_cons (pe_glob (v := .ref (He.ga K "InvalidLine")) rfl (T.gl "InvalidLine" (by decide +kernel)) rfl) pa_nil))) (pa_cons (pe_callB call_isX (by rfl) T.isi (by decide +kernel) (pa_cons (pv 0) (pa_cons (pe_glob (v := .ref (He.ga K "InvalidMeeting")) rfl (T.gl "InvalidMeeting" (by decide +kernel)) rfl) pa_nil))) pa_nil)))))
    (pss_cons (ps_set (i := 1) scOf.nd rfl (Or.inl rfl) (pe_op op_cat (pv 1) (pe_lst (pa_cons (pe_callB call_isX (by rfl) T.isi (by decide +kernel) (pa_cons (pv 0) (pa_cons (pe_glob (v := .ref (He.ga K "InvalidName")) rfl (T.gl "InvalidName" (by decide +kernel)) rfl) pa_nil))) (pa_cons (pe_callB call_isX (by rfl) T.isi (by decide +kernel) (pa_cons (pv 0) (pa_cons (pe_glob (v := .ref (He.ga K "InvalidNames")) rfl (T.gl "InvalidNames" (by decide +kernel)) rfl) pa_nil))) pa_nil)))))
    (pss_cons (ps_set (i := 1) scOf.nd rfl (Or.inl rfl) (pe_op op_cat (pv 1) (pe_lst (pa_cons (pe_callB call_isX (by rfl) T.isi (by decide +kernel) (pa_cons (pv 0) (pa_cons (pe_glob (v := .ref (He.ga K "InvalidNumber")) rfl (T.gl "InvalidNumber" (by decide +kernel)) rfl) pa_nil))) (pa_cons (pe_callB call_isX (by rfl) T.isi (by decide +kernel) (pa_cons (pv 0) (pa_cons (pe_glob (v := .ref (He.ga K "InvalidRows")) rfl (T.gl "InvalidRows" (by decide +kernel)) rfl) pa_nil))) pa_nil)))))
    (pss_cons (ps_set (i := 1) scOf.nd rfl (Or.inl rfl) (pe_op op_cat (pv 1) (pe_lst (pa_cons (pe_callB call_isX (by rfl) T.isi (by decide +kernel) (pa_cons (pv 0) (pa_cons (pe_glob (v := .ref (He.ga K "InvalidSchema")) rfl (T.gl "InvalidSchema" (by decide +kernel)) rfl) pa_nil))) (pa_cons (pe_callB call_isX (by rfl) T.isi (by decide +kernel) (pa_cons (pv 0) (pa_cons (pe_glob (v := .ref (He.ga K "InvalidScript")) rfl (T.gl "InvalidScript" (by decide +kernel)) rfl) pa_nil))) pa_nil)))))
    (pss_cons (ps_set (i := 1) scOf.nd rfl (Or.inl rfl) (pe_op op_cat (pv 1) (pe_lst (pa_cons (pe_callB call_isX (by rfl) T.isi (by decide +kernel) (pa_cons (pv 0) (pa_cons (pe_glob (v := .ref (He.ga K "InvalidWays")) rfl (T.gl "InvalidWays" (by decide +kernel)) rfl) pa_nil))) (pa_cons (pe_callB call_isX (by rfl) T.isi (by decide +kernel) (pa_cons (pv 0) (pa_cons (pe_glob (v := .ref (He.ga K "MergeBroken")) rfl (T.gl "MergeBroken" (by decide +kernel)) rfl) pa_nil))) pa_nil)))))
    (pss_cons (ps_set (i := 1) scOf.nd rfl (Or.inl rfl) (pe_op op_cat (pv 1) (pe_lst (pa_cons (pe_callB call_isX (by rfl) T.isi (by decide +kernel) (pa_cons (pv 0) (pa_cons (pe_glob (v := .ref (He.ga K "NotLet")) rfl (T.gl "NotLet" (by decide +kernel)) rfl) pa_nil))) (pa_cons (pe_callB call_isX (by rfl) T.isi (by decide +kernel) (pa_cons (pv 0) (pa_cons (pe_glob (v := .ref (He.ga K "NothingToUndo")) rfl (T.gl "NothingToUndo" (by decide +kernel)) rfl) pa_nil))) (pa_cons (pe_callB call_isX (by rfl) T.isi (by decide +kernel) (pa_cons (pv 0) (pa_cons (pe_glob (v := .ref (He.ga K "ParseError")) rfl (T.gl "ParseError" (by decide +kernel)) rfl) pa_nil))) pa_nil))))))
    (pss_cons (ps_set (i := 1) scOf.nd rfl (Or.inl rfl) (pe_op op_cat (pv 1) (pe_lst (pa_cons (pe_callB call_isX (by rfl) T.isi (by decide +kernel) (pa_cons (pv 0) (pa_cons (pe_glob (v := .ref (He.ga K "UnknownColumn")) rfl (T.gl "UnknownColumn" (by decide +kernel)) rfl) pa_nil))) (pa_cons (pe_callB call_isX (by rfl) T.isi (by decide +kernel) (pa_cons (pv 0) (pa_cons (pe_glob (v := .ref (He.ga K "UnknownCopy")) rfl (T.gl "UnknownCopy" (by decide +kernel)) rfl) pa_nil))) pa_nil)))))
    (pss_cons (ps_set (i := 1) scOf.nd rfl (Or.inl rfl) (pe_op op_cat (pv 1) (pe_lst (pa_cons (pe_callB call_isX (by rfl) T.isi (by decide +kernel) (pa_cons (pv 0) (pa_cons (pe_glob (v := .ref (He.ga K "UnknownFlag")) rfl (T.gl "UnknownFlag" (by decide +kernel)) rfl) pa_nil))) (pa_cons (pe_callB call_isX (by rfl) T.isi (by decide +kernel) (pa_cons (pv 0) (pa_cons (pe_glob (v := .ref (He.ga K "UnknownRow")) rfl (T.gl "UnknownRow" (by decide +kernel)) rfl) pa_nil))) pa_nil)))))
    (pss_one (ps_ret (pe_op op_cat (pv 1) (pe_lst (pa_cons (pe_callB call_isX (by rfl) T.isi (by decide +kernel) (pa_cons (pv 0) (pa_cons (pe_glob (v := .ref (He.ga K "UnknownStore")) rfl (T.gl "UnknownStore" (by decide +kernel)) rfl) pa_nil))) (pa_cons (pe_callB call_isX (by rfl) T.isi (by decide +kernel) (pa_cons (pv 0) (pa_cons (pe_glob (v := .ref (He.ga K "UnknownTable")) rfl (T.gl "UnknownTable" (by decide +kernel)) rfl) pa_nil))) pa_nil))))))))))))))))))), ?_⟩)
  · obtain ⟨a, c, rfl, _⟩ := h
    rfl
  · obtain ⟨a, c, rfl, hc, hx, k⟩ := h
    have C := T.xc c hc
    have kt := T.kit c hc
    have mem : ∀ (ds : List Str), (ds.all fun y => excs.contains y) = true → ∀ y ∈ ds, PySem.W.kitOne K (.ref (He.ga K c)) (.ref (He.ga K y)) = some (decide (c = y)) := fun ds hd y hy => kt y (List.contains_iff_mem.mp (List.all_eq_true.mp hd y hy))
    refine s_isFirst (K := K) (a := a) (c := c) ["BookBroken", "DuplicateName", "InvalidBook"] (by rfl) hx C (mem _ (by decide +kernel)) (by decide) fun p hp => ?_
    have s0 : Same H (upd H p (.lst (List.map (fun x => V.bl (decide (c = x))) ["BookBroken", "DuplicateName", "InvalidBook"]))) := fun b o e => by rw [upd_ne (ne_of_none e hp)]; exact e
    refine s_isMore (K := K) (a := a) (c := c) ["BookBroken", "DuplicateName", "InvalidBook"] ["InvalidCase", "InvalidCondition"] (by rfl) (by rfl) upd_same (IsEx.same hx s0) C (mem _ (by decide +kernel)) (by decide) (by decide) fun m0 H0 n0 h0 z0 => ?_
    have t0 := s0.trans z0
    refine s_isMore (K := K) (a := a) (c := c) ["BookBroken", "DuplicateName", "InvalidBook", "InvalidCase", "InvalidCondition"] ["InvalidCopies", "InvalidCopy"] (by rfl) (by rfl) h0 (IsEx.same hx t0) C (mem _ (by decide +kernel)) (by decide) (by decide) fun m1 H1 n1 h1 z1 => ?_
    have t1 := t0.trans z1
    refine s_isMore (K := K) (a := a) (c := c) ["BookBroken", "DuplicateName", "InvalidBook", "InvalidCase", "InvalidCondition", "InvalidCopies", "InvalidCopy"] ["InvalidHeld", "InvalidHistory"] (by rfl) (by rfl) h1 (IsEx.same hx t1) C (mem _ (by decide +kernel)) (by decide) (by decide) fun m2 H2 n2 h2 z2 => ?_
    have t2 := t1.trans z2
    refine s_isMore (K := K) (a := a) (c := c) ["BookBroken", "DuplicateName", "InvalidBook", "InvalidCase", "InvalidCondition", "InvalidCopies", "InvalidCopy", "InvalidHeld", "InvalidHistory"] ["InvalidKinds", "InvalidLets"] (by rfl) (by rfl) h2 (IsEx.same hx t2) C (mem _ (by decide +kernel)) (by decide) (by decide) fun m3 H3 n3 h3 z3 => ?_
    have t3 := t2.trans z3
    refine s_isMore (K := K) (a := a) (c := c) ["BookBroken", "DuplicateName", "InvalidBook", "InvalidCase", "InvalidCondition", "InvalidCopies", "InvalidCopy", "InvalidHeld", "InvalidHistory", "InvalidKinds", "InvalidLets"] ["InvalidLine", "InvalidMeeting"] (by rfl) (by rfl) h3 (IsEx.same hx t3) C (mem _ (by decide +kernel)) (by decide) (by decide) fun m4 H4 n4 h4 z4 => ?_
    have t4 := t3.trans z4
    refine s_isMore (K := K) (a := a) (c := c) ["BookBroken", "DuplicateName", "InvalidBook", "InvalidCase", "InvalidCondition", "InvalidCopies", "InvalidCopy", "InvalidHeld", "InvalidHistory", "InvalidKinds", "InvalidLets", "InvalidLine", "InvalidMeeting"] ["InvalidName", "InvalidNames"] (by rfl) (by rfl) h4 (IsEx.same hx t4) C (mem _ (by decide +kernel)) (by decide) (by decide) fun m5 H5 n5 h5 z5 => ?_
    have t5 := t4.trans z5
    refine s_isMore (K := K) (a := a) (c := c) ["BookBroken", "DuplicateName", "InvalidBook", "InvalidCase", "InvalidCondition", "InvalidCopies", "InvalidCopy", "InvalidHeld", "InvalidHistory", "InvalidKinds", "InvalidLets", "InvalidLine", "InvalidMeeting", "InvalidName", "InvalidNames"] ["InvalidNumber", "InvalidRows"] (by rfl) (by rfl) h5 (IsEx.same hx t5) C (mem _ (by decide +kernel)) (by decide) (by decide) fun m6 H6 n6 h6 z6 => ?_
    have t6 := t5.trans z6
    refine s_isMore (K := K) (a := a) (c := c) ["BookBroken", "DuplicateName", "InvalidBook", "InvalidCase", "InvalidCondition", "InvalidCopies", "InvalidCopy", "InvalidHeld", "InvalidHistory", "InvalidKinds", "InvalidLets", "InvalidLine", "InvalidMeeting", "InvalidName", "InvalidNames", "InvalidNumber", "InvalidRows"] ["InvalidSchema", "InvalidScript"] (by rfl) (by rfl) h6 (IsEx.same hx t6) C (mem _ (by decide +kernel)) (by decide) (by decide) fun m7 H7 n7 h7 z7 => ?_
    have t7 := t6.trans z7
    refine s_isMore (K := K) (a := a) (c := c) ["BookBroken", "DuplicateName", "InvalidBook", "InvalidCase", "InvalidCondition", "InvalidCopies", "InvalidCopy", "InvalidHeld", "InvalidHistory", "InvalidKinds", "InvalidLets", "InvalidLine", "InvalidMeeting", "InvalidName", "InvalidNames", "InvalidNumber", "InvalidRows", "InvalidSchema", "InvalidScript"] ["InvalidWays", "MergeBroken"] (by rfl) (by rfl) h7 (IsEx.same hx t7) C (mem _ (by decide +kernel)) (by decide) (by decide) fun m8 H8 n8 h8 z8 => ?_
    have t8 := t7.trans z8
    refine s_isMore (K := K) (a := a) (c := c) ["BookBroken", "DuplicateName", "InvalidBook", "InvalidCase", "InvalidCondition", "InvalidCopies", "InvalidCopy", "InvalidHeld", "InvalidHistory", "InvalidKinds", "InvalidLets", "InvalidLine", "InvalidMeeting", "InvalidName", "InvalidNames", "InvalidNumber", "InvalidRows", "InvalidSchema", "InvalidScript", "InvalidWays", "MergeBroken"] ["NotLet", "NothingToUndo", "ParseError"] (by rfl) (by rfl) h8 (IsEx.same hx t8) C (mem _ (by decide +kernel)) (by decide) (by decide) fun m9 H9 n9 h9 z9 => ?_
    have t9 := t8.trans z9
    refine s_isMore (K := K) (a := a) (c := c) ["BookBroken", "DuplicateName", "InvalidBook", "InvalidCase", "InvalidCondition", "InvalidCopies", "InvalidCopy", "InvalidHeld", "InvalidHistory", "InvalidKinds", "InvalidLets", "InvalidLine", "InvalidMeeting", "InvalidName", "InvalidNames", "InvalidNumber", "InvalidRows", "InvalidSchema", "InvalidScript", "InvalidWays", "MergeBroken", "NotLet", "NothingToUndo", "ParseError"] ["UnknownColumn", "UnknownCopy"] (by rfl) (by rfl) h9 (IsEx.same hx t9) C (mem _ (by decide +kernel)) (by decide) (by decide) fun m10 H10 n10 h10 z10 => ?_
    have t10 := t9.trans z10
    refine s_isMore (K := K) (a := a) (c := c) ["BookBroken", "DuplicateName", "InvalidBook", "InvalidCase", "InvalidCondition", "InvalidCopies", "InvalidCopy", "InvalidHeld", "InvalidHistory", "InvalidKinds", "InvalidLets", "InvalidLine", "InvalidMeeting", "InvalidName", "InvalidNames", "InvalidNumber", "InvalidRows", "InvalidSchema", "InvalidScript", "InvalidWays", "MergeBroken", "NotLet", "NothingToUndo", "ParseError", "UnknownColumn", "UnknownCopy"] ["UnknownFlag", "UnknownRow"] (by rfl) (by rfl) h10 (IsEx.same hx t10) C (mem _ (by decide +kernel)) (by decide) (by decide) fun m11 H11 n11 h11 z11 => ?_
    have t11 := t10.trans z11
    refine s_isRet (K := K) (a := a) (c := c) ["BookBroken", "DuplicateName", "InvalidBook", "InvalidCase", "InvalidCondition", "InvalidCopies", "InvalidCopy", "InvalidHeld", "InvalidHistory", "InvalidKinds", "InvalidLets", "InvalidLine", "InvalidMeeting", "InvalidName", "InvalidNames", "InvalidNumber", "InvalidRows", "InvalidSchema", "InvalidScript", "InvalidWays", "MergeBroken", "NotLet", "NothingToUndo", "ParseError", "UnknownColumn", "UnknownCopy", "UnknownFlag", "UnknownRow"] ["UnknownStore", "UnknownTable"] (by rfl) (by rfl) h11 (IsEx.same hx t11) C (mem _ (by decide +kernel)) (by decide) (by decide) fun m12 H12 n12 h12 z12 => ?_
    have fin := t11.trans z12
    exact k m12 H12 (t11.free n12) h12 fin
theorem scErr : FnScope ["word", "line", "found"] ["word", "line"] (defScope sErrors) := ⟨rfl, rfl, rfl, by decide +kernel, rfl, by decide +kernel, by decide +kernel⟩
theorem ok_err (T : ET P K mg) (F : FnP K "_law_errors" sErrors f fd) : FnOk P w K mg base CX0 2 f fd ["word", "line"] (spErr K) := by
  obtain ⟨fI, pt⟩ := T.pt
  refine F.ok scErr (fun vs H Q E h => ?_) (fun cdv A outer s H vs Q E hr h => ⟨_, PSs.nox (pss_cons (ps_set (i := 2) scErr.nd rfl (Or.inl rfl) (pe_lst (pa_cons (pe_exc1 PySem.F.excBase_ValueError (T.own "BookBroken" (by decide +kernel)).1 (T.gl "BookBroken" (by decide +kernel)) (T.own "BookBroken" (by decide +kernel)).2 (by rfl) (pv 0)) (pa_cons (pe_exc1 PySem.F.excBase_ValueError (T.own "DuplicateName" (by decide +kernel)).1 (T.gl "DuplicateName" (by decide +kernel)) (T.own "DuplicateName" (by decide +kernel)).2 (by rfl) (pv 0)) (pa_cons (pe_exc1 PySem.F.excBase_ValueError (T.own "InvalidBook" (by decide +kernel)).1 (T.gl "InvalidBook" (by decide +kernel)) (T.own "InvalidBook" (by decide +kernel)).2 (by rfl) (pv 0)) (pa_cons (pe_exc1 PySem.F.excBase_ValueError (T.own "InvalidCase" (by decide +kernel)).1 (T.gl "InvalidCase" (by decide +kernel)) (T.own "InvalidCase" (by decide +kernel)).2 (by rfl) (pv 0)) (pa_cons (pe_exc1 PySem.F.excBase_ValueError (T.own "InvalidCondition" (by decide +kernel)).1 (T.gl "InvalidCondition" (by decide +kernel)) (T.own "InvalidCondition" (by decide +kernel)).2 (by rfl) (pv 0)) pa_nil)))))))
    (pss_cons (ps_set (i := 2) scErr.nd rfl (Or.inl rfl) (pe_op op_cat (pv 2) (pe_lst (pa_cons (pe_exc1 PySem.F.excBase_ValueError (T.own "InvalidCopies" (by decide +kernel)).1 (T.gl "InvalidCopies" (by decide +kernel)) (T.own "InvalidCopies" (by decide +kernel)).2 (by rfl) (pv 0)) (pa_cons (pe_exc1 PySem.F.excBase_ValueError (T.own "InvalidCopy" (by decide +kernel)).1 (T.gl "InvalidCopy" (by decide +kernel)) (T.own "InvalidCopy" (by decide +kernel)).2 (by rfl) (pv 0)) (pa_cons (pe_exc1 PySem.F.excBase_ValueError (T.own "InvalidHeld" (by decide +kernel)).1 (T.gl "InvalidHeld" (by decide +kernel)) (T.own "InvalidHeld" (by decide +kernel)).2 (by rfl) (pv 0)) (pa_cons (pe_exc1 PySem.F.excBase_ValueError (T.own "InvalidHistory" (by decide +kernel)).1 (T.gl "InvalidHistory" (by decide +kernel)) (T.own "InvalidHistory" (by decide +kernel)).2 (by rfl) (pv 0)) pa_nil)))))))
    (pss_cons (ps_set (i := 2) scErr.nd rfl (Or.inl rfl) (pe_op op_cat (pv 2) (pe_lst (pa_cons (pe_exc1 PySem.F.excBase_ValueError (T.own "InvalidKinds" (by decide +kernel)).1 (T.gl "InvalidKinds" (by decide +kernel)) (T.own "InvalidKinds" (by decide +kernel)).2 (by rfl) (pv 0)) (pa_cons (pe_exc1 PySem.F.excBase_ValueError (T.own "InvalidLets" (by decide +kernel)).1 (T.gl "InvalidLets" (by decide +kernel)) (T.own "InvalidLets" (by decide +kernel)).2 (by rfl) (pv 0)) (pa_cons (pe_exc1 PySem.F.excBase_ValueError (T.own "InvalidLine" (by decide +kernel)).1 (T.gl "InvalidLine" (by decide +kernel)) (T.own "InvalidLine" (by decide +kernel)).2 (by rfl) (pv 0)) (pa_cons (pe_exc1 PySem.F.excBase_ValueError (T.own "InvalidMeeting" (by decide +kernel)).1 (T.gl "InvalidMeeting" (by decide +kernel)) (T.own "InvalidMeeting" (by decide +kernel)).2 (by rfl) (pv 0)) pa_nil)))))))
    (pss_cons (ps_set (i := 2) scErr.nd rfl (Or.inl rfl) (pe_op op_cat (pv 2) (pe_lst (pa_cons (pe_exc1 PySem.F.excBase_ValueError (T.own "InvalidName" (by decide +kernel)).1 (T.gl "InvalidName" (by decide +kernel)) (T.own "InvalidName" (by decide +kernel)).2 (by rfl) (pv 0)) (pa_cons (pe_exc1 PySem.F.excBase_ValueError (T.own "InvalidNames" (by decide +kernel)).1 (T.gl "InvalidNames" (by decide +kernel)) (T.own "InvalidNames" (by decide +kernel)).2 (by rfl) (pv 0)) (pa_cons (pe_exc1 PySem.F.excBase_ValueError (T.own "InvalidNumber" (by decide +kernel)).1 (T.gl "InvalidNumber" (by decide +kernel)) (T.own "InvalidNumber" (by decide +kernel)).2 (by rfl) (pv 0)) (pa_cons (pe_exc1 PySem.F.excBase_ValueError (T.own "InvalidRows" (by decide +kernel)).1 (T.gl "InvalidRows" (by decide +kernel)) (T.own "InvalidRows" (by decide +kernel)).2 (by rfl) (pv 0)) pa_nil)))))))
    (pss_cons (ps_set (i := 2) scErr.nd rfl (Or.inl rfl) (pe_op op_cat (pv 2) (pe_lst (pa_cons (pe_exc1 PySem.F.excBase_ValueError (T.own "InvalidSchema" (by decide +kernel)).1 (T.gl "InvalidSchema" (by decide +kernel)) (T.own "InvalidSchema" (by decide +kernel)).2 (by rfl) (pv 0)) (pa_cons (pe_exc1 PySem.F.excBase_ValueError (T.own "InvalidScript" (by decide +kernel)).1 (T.gl "InvalidScript" (by decide +kernel)) (T.own "InvalidScript" (by decide +kernel)).2 (by rfl) (pv 0)) (pa_cons (pe_exc1 PySem.F.excBase_ValueError (T.own "InvalidWays" (by decide +kernel)).1 (T.gl "InvalidWays" (by decide +kernel)) (T.own "InvalidWays" (by decide +kernel)).2 (by rfl) (pv 0)) (pa_cons (pe_exc1 PySem.F.excBase_ValueError (T.own "MergeBroken" (by decide +kernel)).1 (T.gl "MergeBroken" (by decide +kernel)) (T.own "MergeBroken" (by decide +kernel)).2 (by rfl) (pv 0)) pa_nil)))))))
    (pss_cons (ps_set (i := 2) scErr.nd rfl (Or.inl rfl) (pe_op op_cat (pv 2) (pe_lst (pa_cons (pe_exc1 PySem.F.excBase_ValueError (T.own "NotLet" (by decide +kernel)).1 (T.gl "NotLet" (by decide +kernel)) (T.own "NotLet" (by decide +kernel)).2 (by rfl) (pv 0)) (pa_cons (pe_exc1 PySem.F.excBase_ValueError (T.own "NothingToUndo" (by decide +kernel)).1 (T.gl "NothingToUndo" (by decide +kernel)) (T.own "NothingToUndo" (by decide +kernel)).2 (by rfl) (pv 0)) (pa_cons (pe_parse pt hr (pv 1)) (pa_cons (pe_exc1 PySem.F.excBase_ValueError (T.own "UnknownColumn" (by decide +kernel)).1 (T.gl "UnknownColumn" (by decide +kernel)) (T.own "UnknownColumn" (by decide +kernel)).2 (by rfl) (pv 0)) (pa_cons (pe_exc1 PySem.F.excBase_ValueError (T.own "UnknownCopy" (by decide +kernel)).1 (T.gl "UnknownCopy" (by decide +kernel)) (T.own "UnknownCopy" (by decide +kernel)).2 (by rfl) (pv 0)) pa_nil))))))))
    (pss_one (ps_ret (pe_op op_cat (pv 2) (pe_lst (pa_cons (pe_exc1 PySem.F.excBase_ValueError (T.own "UnknownFlag" (by decide +kernel)).1 (T.gl "UnknownFlag" (by decide +kernel)) (T.own "UnknownFlag" (by decide +kernel)).2 (by rfl) (pv 0)) (pa_cons (pe_exc1 PySem.F.excBase_ValueError (T.own "UnknownRow" (by decide +kernel)).1 (T.gl "UnknownRow" (by decide +kernel)) (T.own "UnknownRow" (by decide +kernel)).2 (by rfl) (pv 0)) (pa_cons (pe_exc1 PySem.F.excBase_ValueError (T.own "UnknownStore" (by decide +kernel)).1 (T.gl "UnknownStore" (by decide +kernel)) (T.own "UnknownStore" (by decide +kernel)).2 (by rfl) (pv 0)) (pa_cons (pe_exc1 PySem.F.excBase_ValueError (T.own "UnknownTable" (by decide +kernel)).1 (T.gl "UnknownTable" (by decide +kernel)) (T.own "UnknownTable" (by decide +kernel)).2 (by rfl) (pv 0)) pa_nil)))))))))))))), ?_⟩)
  · obtain ⟨z, n, rfl, _⟩ := h
    rfl
  · obtain ⟨z, n, rfl, hn, k⟩ := h
    refine s_errFirst (K := K) (n := n) ["BookBroken", "DuplicateName", "InvalidBook", "InvalidCase", "InvalidCondition"] (by repeat (first | exact .nil | refine .cons (makes_parse (by rfl) hn) ?_ | refine .cons (makes_plain (by decide +kernel) (by rfl)) ?_)) (by decide) fun l0 as0 H0 h0 e0 z0 => ?_
    refine s_errMore (K := K) (n := n) ["BookBroken", "DuplicateName", "InvalidBook", "InvalidCase", "InvalidCondition"] ["InvalidCopies", "InvalidCopy", "InvalidHeld", "InvalidHistory"] (by repeat (first | exact .nil | refine .cons (makes_parse (by rfl) hn) ?_ | refine .cons (makes_plain (by decide +kernel) (by rfl)) ?_)) (by rfl) h0 e0 (by decide) (by decide) fun l1 as1 H1 h1 e1 z1 => ?_
    have t1 := z0.trans z1
    refine s_errMore (K := K) (n := n) ["BookBroken", "DuplicateName", "InvalidBook", "InvalidCase", "InvalidCondition", "InvalidCopies", "InvalidCopy", "InvalidHeld", "InvalidHistory"] ["InvalidKinds", "InvalidLets", "InvalidLine", "InvalidMeeting"] (by repeat (first | exact .nil | refine .cons (makes_parse (by rfl) hn) ?_ | refine .cons (makes_plain (by decide +kernel) (by rfl)) ?_)) (by rfl) h1 e1 (by decide) (by decide) fun l2 as2 H2 h2 e2 z2 => ?_
    have t2 := t1.trans z2
    refine s_errMore (K := K) (n := n) ["BookBroken", "DuplicateName", "InvalidBook", "InvalidCase", "InvalidCondition", "InvalidCopies", "InvalidCopy", "InvalidHeld", "InvalidHistory", "InvalidKinds", "InvalidLets", "InvalidLine", "InvalidMeeting"] ["InvalidName", "InvalidNames", "InvalidNumber", "InvalidRows"] (by repeat (first | exact .nil | refine .cons (makes_parse (by rfl) hn) ?_ | refine .cons (makes_plain (by decide +kernel) (by rfl)) ?_)) (by rfl) h2 e2 (by decide) (by decide) fun l3 as3 H3 h3 e3 z3 => ?_
    have t3 := t2.trans z3
    refine s_errMore (K := K) (n := n) ["BookBroken", "DuplicateName", "InvalidBook", "InvalidCase", "InvalidCondition", "InvalidCopies", "InvalidCopy", "InvalidHeld", "InvalidHistory", "InvalidKinds", "InvalidLets", "InvalidLine", "InvalidMeeting", "InvalidName", "InvalidNames", "InvalidNumber", "InvalidRows"] ["InvalidSchema", "InvalidScript", "InvalidWays", "MergeBroken"] (by repeat (first | exact .nil | refine .cons (makes_parse (by rfl) hn) ?_ | refine .cons (makes_plain (by decide +kernel) (by rfl)) ?_)) (by rfl) h3 e3 (by decide) (by decide) fun l4 as4 H4 h4 e4 z4 => ?_
    have t4 := t3.trans z4
    refine s_errMore (K := K) (n := n) ["BookBroken", "DuplicateName", "InvalidBook", "InvalidCase", "InvalidCondition", "InvalidCopies", "InvalidCopy", "InvalidHeld", "InvalidHistory", "InvalidKinds", "InvalidLets", "InvalidLine", "InvalidMeeting", "InvalidName", "InvalidNames", "InvalidNumber", "InvalidRows", "InvalidSchema", "InvalidScript", "InvalidWays", "MergeBroken"] ["NotLet", "NothingToUndo", "ParseError", "UnknownColumn", "UnknownCopy"] (by repeat (first | exact .nil | refine .cons (makes_parse (by rfl) hn) ?_ | refine .cons (makes_plain (by decide +kernel) (by rfl)) ?_)) (by rfl) h4 e4 (by decide) (by decide) fun l5 as5 H5 h5 e5 z5 => ?_
    have t5 := t4.trans z5
    refine s_errRet (K := K) (n := n) ["BookBroken", "DuplicateName", "InvalidBook", "InvalidCase", "InvalidCondition", "InvalidCopies", "InvalidCopy", "InvalidHeld", "InvalidHistory", "InvalidKinds", "InvalidLets", "InvalidLine", "InvalidMeeting", "InvalidName", "InvalidNames", "InvalidNumber", "InvalidRows", "InvalidSchema", "InvalidScript", "InvalidWays", "MergeBroken", "NotLet", "NothingToUndo", "ParseError", "UnknownColumn", "UnknownCopy"] ["UnknownFlag", "UnknownRow", "UnknownStore", "UnknownTable"] (by repeat (first | exact .nil | refine .cons (makes_parse (by rfl) hn) ?_ | refine .cons (makes_plain (by decide +kernel) (by rfl)) ?_)) (by rfl) h5 e5 (by decide) (by decide) fun l6 as6 H6 h6 e6 z6 => ?_
    have t6 := t5.trans z6
    exact k l6 as6 H6 h6 e6 t6
end
end K33
set_option Elab.async false
set_option linter.all false
set_option maxRecDepth 100000
set_option maxHeartbeats 4000000
namespace K33
open PySem PySem.Spec PyProof.Rows L2
structure LT (mg : Str → Option Value) (fP fD fO fE : Addr) : Prop where
  gPen : mg "_law_pen" = some (.ref fP)
  gDraw : mg "_law_draw" = some (.ref fD)
  gOf : mg "_law_of" = some (.ref fO)
  gErr : mg "_law_errors" = some (.ref fE)
  range : mg "range" = none
  len : mg "len" = none
def spLaw (K : PySem.W.Frag) : Sp := fun vs H Q _ => ∃ (s : Addr) (ns : List Int), vs = [.ref s] ∧ SqL K H s (ns.map V.int) ∧ ∀ H', Q (.bl true) H'
theorem bools_eq (k : Nat) (c : Str) (h : excs[k]? = some c) : (excs.map fun x => decide (c = x)) = (List.range 30).map fun i => decide (i = k) := by
  have hk : k < 30 := by
    have := (List.getElem?_eq_some_iff.mp h).1
    exact this
  have all : ((List.range 30).all fun k => match excs[k]? with
    | some c => decide ((excs.map fun x => decide (c = x)) = (List.range 30).map fun i => decide (i = k))
    | none => false) = true := by decide +kernel
  have z := List.all_eq_true.mp all k (List.mem_range.mpr hk)
  rw [h] at z
  exact of_decide_eq_true z
theorem dp_bools (K : PySem.W.Frag) (H : Hp) : ∀ bs : List Bool, DpAll K H (bs.map V.bl) (bs.map PyData.bool)
  | [] => .nil
  | b :: r => .cons (.bl b) (dp_bools K H r)
theorem shaped_bools (bs : List Bool) : SeqAt.shaped (.list (bs.map PyData.bool)) = true := by
  induction bs with
  | nil => rfl
  | cons n r ih => exact ih
theorem lay_bools (bs : List Bool) : PyData.canLay0 (.list (bs.map PyData.bool)) = true := by
  induction bs with
  | nil => rfl
  | cons n r ih => exact ih
theorem exc_mem {k : Nat} {c : Str} (h : excs[k]? = some c) : c ∈ excs := List.mem_of_getElem? h
section
variable {P : Program} {w : World} {K : PySem.W.Frag} {mg : Str → Option Value} {base : Heap} {f fP fN fD fO fE : Addr} {fd fdP fdN fdD fdO fdE : FuncData}
theorem scLaw : FnScope ["script", "pen", "turn", "word", "line", "some", "k", "j"] ["script"] (defScope sLaw) := ⟨rfl, rfl, rfl, by decide +kernel, rfl, by decide +kernel, by decide +kernel⟩
theorem ok_law (L : LT mg fP fD fO fE) (T : ET P K mg) (PT : PenT mg fN) (FP : FnP K "_law_pen" sPen fP fdP) (FN : FnP K "_law_next" sNext fN fdN) (FD : FnP K "_law_draw" sDraw fD fdD) (FO : FnP K "_law_of" sOf fO fdO) (FE : FnP K "_law_errors" sErrors fE fdE) (F : FnP K "law" sLaw f fd) :
    FnOk P w K mg base CX0 3 f fd ["script"] (spLaw K) := by
  have GP : FnOk P w K mg base CX0 1 fP fdP ["script"] (spPen K) := ok_pen PT FP
  have GD : FnOk P w K mg base CX0 2 fD fdD ["pen", "under"] spDraw := ok_draw PT FN FD
  have GO : FnOk P w K mg base CX0 1 fO fdO ["caught"] (spOf K) := ok_of T FO
  have GE : FnOk P w K mg base CX0 2 fE fdE ["word", "line"] (spErr K) := ok_err T FE
  have bP : Binds K fdP ["script"] [] := FP.bindsN fun _ _ _ _ _ _ us hl => match us, hl with | [_], _ => rfl
  have bD : Binds K fdD ["pen", "under"] [] := FD.bindsN fun _ _ _ _ _ _ us hl => match us, hl with | [_, _], _ => rfl
  have bO : Binds K fdO ["caught"] [] := FO.bindsN fun _ _ _ _ _ _ us hl => match us, hl with | [_], _ => rfl
  have bE : Binds K fdE ["word", "line"] [] := FE.bindsN fun _ _ _ _ _ _ us hl => match us, hl with | [_, _], _ => rfl
  obtain ⟨fI, pt⟩ := T.pt
  refine F.ok scLaw (fun vs H Q E h => ?_) (fun cdv A outer s H vs Q E hr h => ⟨_, PSs.nox (pss_cons (ps_set (i := 1) scLaw.nd rfl (Or.inl rfl) (pe_call GP (hr.mono (by decide)) rfl L.gPen FP.kp bP .nil pass0 (pa_cons (pv 0) pa_nil)))
    (pss_cons (ps_for PassesOwn.never rfl (pi_range1 rfl L.range (pa_cons pe_int pa_nil)) (pg_name (i := 2) scLaw.nd rfl (Or.inl rfl))
    (pss_cons (ps_set (i := 3) scLaw.nd rfl (Or.inl rfl) (pe_ix ix_list (pe_lst (pa_cons pe_str (pa_cons pe_str (pa_cons pe_str (pa_cons pe_str pa_nil))))) (pe_call GD (hr.mono (by decide)) rfl L.gDraw FD.kp bD .nil pass0 (pa_cons (pv 1) (pa_cons pe_int pa_nil))) (fun _ _ => rfl)))
    (pss_cons (ps_set (i := 4) scLaw.nd rfl (Or.inl rfl) (pe_ix ix_list (pe_lst (pa_cons pe_int (pa_cons pe_int (pa_cons pe_int (pa_cons (pe_op op_pow pe_int pe_int) pa_nil))))) (pe_call GD (hr.mono (by decide)) rfl L.gDraw FD.kp bD .nil pass0 (pa_cons (pv 1) (pa_cons pe_int pa_nil))) (fun _ _ => rfl)))
    (pss_cons (ps_set (i := 5) scLaw.nd rfl (Or.inl rfl) (pe_call GE (hr.mono (by decide)) rfl L.gErr FE.kp bE .nil pass0 (pa_cons (pv 3) (pa_cons (pv 4) pa_nil))))
    (pss_cons (ps_for PassesOwn.never rfl (pi_range1 rfl L.range (pa_cons (pe_callB call_len_seq (by rfl) L.len PySem.boot_len (pa_cons (pv 5) pa_nil)) pa_nil)) (pg_name (i := 6) scLaw.nd rfl (Or.inr rfl))
    (pss_cut (ps_if (pt_cmpR (op_neD hr.units) (pe_call GO (hr.mono (by decide)) rfl L.gOf FO.kp bO .nil pass0 (pa_cons (pe_ix ix_list (pv 5) (pv 6) (fun _ _ => rfl)) pa_nil)) (pe_lc (own := [("j", 7)]) (g := gName 7) (tt := tYes) rfl scLaw.nd (pi_range1 rfl L.range (pa_cons (pe_callB call_len_seq (by rfl) L.len PySem.boot_len (pa_cons (pv 5) pa_nil)) pa_nil)) (blkOk_by (N := ["script", "pen", "turn", "word", "line", "some", "k", "j"]) (sc := defScope sLaw) (by decide +kernel)) (fun _ _ _ _ _ => pg_name (i := 7) scLaw.nd rfl (Or.inl rfl)) (fun _ _ _ _ _ => pts_nil) (fun _ _ _ _ _ => pe_cmpR op_eq (pv 7) (pv 6) (nomark _))) (nomark _))
      (pss_one (ps_ret pe_bl)) pss_nil)
    (pss_one (ps_if (PW.pt (pw_or (pt_not (pt_val (pe_callB call_isX (by rfl) T.isi (by decide +kernel) (pa_cons (pe_ix ix_list (pv 5) (pv 6) (fun _ _ => rfl)) (pa_cons (pe_glob (v := .ref (He.ga K "ApartError")) rfl (T.gl "ApartError" (by decide +kernel)) rfl) pa_nil))))) (pw_or1 (pt_not (pt_val (pe_callB call_isX (by rfl) T.isi (by decide +kernel) (pa_cons (pe_ix ix_list (pv 5) (pv 6) (fun _ _ => rfl)) (pa_cons (pe_bltn (v := .ty "ValueError") (by rfl) T.VE (by decide +kernel) rfl) pa_nil))))))))
      (pss_one (ps_ret pe_bl)) pss_nil))))
    (pss_one (ps_if (PW.pt (pw_or (pt_cmpR op_ne (pe_line (pe_ix ix_list (pv 5) pe_int (fun _ _ => rfl))) (pv 4) (nomark _)) (pw_or1 (pt_val (pe_callB (cr_any rfl) (by rfl) T.any (by decide +kernel) (pa_cons (pe_call GO (hr.mono (by decide)) rfl L.gOf FO.kp bO .nil pass0 (pa_cons (pe_exc1 PySem.F.excBase_ValueError (T.own "ApartError" (by decide +kernel)).1 (T.gl "ApartError" (by decide +kernel)) (T.own "ApartError" (by decide +kernel)).2 (by rfl) (pv 3)) pa_nil)) pa_nil))))))
      (pss_one (ps_ret pe_bl)) pss_nil)))))))
    (pss_one (ps_ret pe_bl)))), ?_⟩)
  · obtain ⟨a, ns, rfl, _⟩ := h
    rfl
  · obtain ⟨s, ns, rfl, hS, k⟩ := h
    refine ⟨_, rfl, s, ns, rfl, hS, fun p a ms H1 np hP s1 => ?_⟩
    refine ⟨3, rfl, by decide, by decide, for_range (lo := 0) (n := 3) (fun t σ H' => ∃ (v2 v3 v4 v5 v6 v7 : Option V) (i d : Int), σ = [some (.ref s), some (.ref p), v2, v3, v4, v5, v6, v7] ∧ PenH H' p a ms i d ∧ i ≤ 2 * (t : Int))
      ⟨none, none, none, none, none, none, 0, 0, rfl, hP, by decide⟩ ?_ ?_⟩
    · rintro t σ H2 ht ⟨v2, v3, v4, v5, v6, v7, i, d, rfl, hP2, hi⟩
      have hP2' := hP2
      obtain ⟨hp2, ha2, hl2, h02⟩ := hP2'
      -- word
      refine ⟨by show 4 ≤ sizeLine; decide, fun w0 hw0 => ?_⟩
      have nw : p ≠ w0 := ne_of_none hp2 hw0
      have na : a ≠ w0 := ne_of_none ha2 hw0
      refine ⟨_, rfl, p, a, ms, i, d, 4, rfl, ⟨by rw [upd_ne nw]; exact hp2, by rw [upd_ne na]; exact ha2, hl2, h02⟩, by omega, by decide, by decide, fun g1 i1 d1 H3 g10 g14 i1a i1b hP3 b3 => ?_⟩
      obtain ⟨z, hz⟩ : ∃ z : Str, atI [V.str "", .str "no", .str "some words", .str "0"] g1 = some (.str z) := by
        have : g1 = 0 ∨ g1 = 1 ∨ g1 = 2 ∨ g1 = 3 := by omega
        rcases this with rfl | rfl | rfl | rfl <;> exact ⟨_, rfl⟩
      refine ⟨w0, _, g1, .str z, rfl, rfl, SqL.of (b3 w0 _ nw.symm upd_same), hz, ?_⟩
      have hP3' := hP3
      obtain ⟨hp3, ha3, hl3, h03⟩ := hP3'
      -- line
      refine ⟨10, 20, rfl, rfl, ⟨by decide, by decide, by decide⟩, by show 4 ≤ sizeLine; decide, fun w1 hw1 => ?_⟩
      have nw1 : p ≠ w1 := ne_of_none hp3 hw1
      have na1 : a ≠ w1 := ne_of_none ha3 hw1
      refine ⟨_, rfl, p, a, ms, i1, d1, 4, rfl, ⟨by rw [upd_ne nw1]; exact hp3, by rw [upd_ne na1]; exact ha3, hl3, h03⟩, by omega, by decide, by decide, fun g2 i2 d2 H4 g20 g24 i2a i2b hP4 b4 => ?_⟩
      obtain ⟨n, hn, hn2⟩ : ∃ n : Int, atI [V.int 0, .int 2, .int 9, .int (10 ^ (20 : Int).toNat)] g2 = some (.int n) ∧ n.natAbs.log2 < 1920 := by
        have : g2 = 0 ∨ g2 = 1 ∨ g2 = 2 ∨ g2 = 3 := by omega
        rcases this with rfl | rfl | rfl | rfl <;> exact ⟨_, rfl, by decide +kernel⟩
      refine ⟨w1, _, g2, .int n, rfl, rfl, SqL.of (b4 w1 _ nw1.symm upd_same), hn, ?_⟩
      -- some
      refine ⟨_, rfl, _, rfl, z, n, rfl, hn2, fun l as H5 hl5 he5 s5 => ?_⟩
      have hP5 : PenH H5 p a ms i2 d2 := ⟨s5 _ _ hP4.1, s5 _ _ hP4.2.1, hP4.2.2⟩
      have hlen : as.length = 30 := he5.1
      refine ⟨_, rfl, l, as, rfl, .inl (SqL.of hl5), (as.length : Int), rfl, by rw [hlen]; decide, by rw [hlen]; decide, for_range (lo := 0) (n := (as.length : Int).toNat) (fun q σ H' => ∃ (v6 v7 : Option V), σ = [some (.ref s), some (.ref p), some (.int (0 + (t : Int))), some (.str z), some (.int n), some (.ref l), v6, v7] ∧ Same H5 H')
        ⟨_, _, rfl, Same.refl _⟩ ?_ ?_⟩
      · rintro q σ H6 hq ⟨u6, u7, rfl, s6⟩
        have hq30 : q < 30 := by omega
        obtain ⟨c, hc⟩ : ∃ c, excs[q]? = some c := ⟨excs[q]'(by show q < 30; exact hq30), List.getElem?_eq_getElem _⟩
        obtain ⟨e, hae, hex⟩ := he5.2 q c hc
        have hex6 := (hex.same s6).is
        have hl6 := s6 _ _ hl5
        have e0 : (0 : Int) + (q : Int) = ((q : Nat) : Int) := by omega
        have hat : atI as (0 + (q : Int)) = some (.ref e) := at_of e0 hae
        refine ⟨fun σ' H' => ∃ u7, σ' = [some (.ref s), some (.ref p), some (.int (0 + (t : Int))), some (.str z), some (.int n), some (.ref l), some (.int (0 + (q : Int))), u7] ∧ Same H5 H', ?_, ?_⟩
        · refine ⟨_, rfl, _, rfl, l, as, _, .ref e, rfl, rfl, SqL.of hl6, hat, e, c, rfl, List.mem_cons_of_mem _ (exc_mem hc), hex6, fun m H7 hm hm7 s7 => ?_⟩
          have hl7 := s7 _ _ hl6
          refine ⟨_, rfl, l, as, rfl, .inl (SqL.of hl7), (as.length : Int), rfl, by rw [hlen]; decide, by rw [hlen]; decide, fun D hD => ?_⟩
          have nmD : m ≠ D := ne_of_none hm7 hD
          refine lc_range (lo := 0) (n := (as.length : Int).toNat) (fun j H' => H' D = some (.lst ((List.range j).map fun i => .bl (decide (i = q)))) ∧ ∀ b o, b ≠ D → H7 b = some o → H' b = some o) ⟨upd_same, fun b o hb e => by rw [upd_ne hb]; exact e⟩ ?_ ?_
          · rintro j H8 hj ⟨hD8, k8⟩
            refine ⟨rfl, _, rfl, _, rfl, rfl, _, hD8, ?_, ?_, ?_⟩
            · rw [List.length_map, List.length_range]
              exact Nat.lt_of_lt_of_le (show j < 100 by omega) (by decide)
            · rw [upd_same, List.range_succ, List.map_append]
              have ed : decide (V.int (0 + (j : Int)) = V.int (0 + (q : Int))) = decide (j = q) := by
                apply decide_eq_decide.mpr
                constructor
                · intro h
                  injection h with h
                  omega
                · intro h
                  rw [h]
              rw [ed]
              rfl
            · intro b o hb e
              rw [upd_ne hb]
              exact k8 b o hb e
          · rintro H8 ⟨hD8, k8⟩
            have en : (as.length : Int).toNat = 30 := by rw [hlen]; rfl
            rw [en] at hD8
            have hb := bools_eq q c hc
            refine ⟨.list ((excs.map fun x => decide (c = x)).map PyData.bool), .list (((List.range 30).map fun i => decide (i = q)).map PyData.bool), .lst (SqL.of (k8 m _ nmD hm7)) ?_, .lst (SqL.of hD8) ?_, shaped_bools _, shaped_bools _, _, rfl, ?_⟩
            · have := dp_bools K H8 (excs.map fun x => decide (c = x))
              rw [List.map_map] at this
              exact this
            · have := dp_bools K H8 ((List.range 30).map fun i => decide (i = q))
              rw [List.map_map] at this
              exact this
            · rw [hb, SeqAt.eqv_refl _ (lay_bools _)]
              exact ⟨_, rfl, fun b o e => k8 b o (ne_of_none (s7 b o (s6 b o e)) hD) (s7 b o (s6 b o e))⟩
        · rintro σ' H7 ⟨u7', rfl, s7⟩
          have hex7 := (hex.same s7).is
          have hl7 := s7 _ _ hl5
          have cm := exc_mem hc
          have cx := T.xc c (List.mem_cons_of_mem _ cm)
          refine ⟨_, rfl, _, rfl, l, as, _, .ref e, rfl, rfl, SqL.of hl7, hat, e, _, _, _, true, rfl, hex7, cx, .own _, T.kitA c cm, true, rfl, ?_⟩
          refine iteF ?_
          refine ⟨_, rfl, _, rfl, l, as, _, .ref e, rfl, rfl, SqL.of hl7, hat, e, _, _, _, true, rfl, hex7, cx, .ty _, T.kitV c cm, true, rfl, ?_⟩
          exact ⟨some (.int (0 + (q : Int))), u7', rfl, s7⟩
      · rintro σ H6 ⟨u6, u7, rfl, s6⟩
        have hl6 := s6 _ _ hl5
        obtain ⟨e, hae, hex⟩ := he5.2 23 "ParseError" (by rfl)
        rcases hex.same s6 with ⟨hne, _⟩ | ⟨_, dd, he6, hd6⟩
        · exact absurd rfl hne
        refine ⟨_, rfl, l, as, 23, .ref e, rfl, rfl, SqL.of hl6, at_of (j := 23) rfl hae, e, _, dd, .int n, rfl, he6, hd6, T.xc _ (by decide +kernel), pt.noN, _, rfl, rfl, _, rfl, ?_⟩
        have en : (!decide (V.int n = V.int n)) = false := by rw [decide_eq_true rfl]; rfl
        rw [en]
        refine iteF ?_
        refine ⟨_, rfl, fun x hx => ⟨x, "ApartError", rfl, by decide +kernel, .inl upd_same, fun m H7 hm hm7 s7 => ?_⟩⟩
        refine ⟨m, excs.map fun x => decide (("ApartError" : Str) = x), rfl, SqL.of (by rw [hm7, List.map_map]; rfl), _, rfl, ?_⟩
        have ea : (excs.map fun x => decide (("ApartError" : Str) = x)).any id = false := by decide +kernel
        rw [ea]
        have sx : Same H6 H7 := Same.trans (fun b o z => by rw [upd_ne (ne_of_none z hx)]; exact z) s7
        refine ⟨_, _, _, _, _, _, i2, d2, rfl, ⟨sx _ _ (s6 _ _ hP5.1), sx _ _ (s6 _ _ hP5.2.1), hP5.2.2⟩, by omega⟩
    · rintro σ H2 ⟨v2, v3, v4, v5, v6, v7, i, d, rfl, hP2, hi⟩
      exact k _
end
end K33
set_option Elab.async false
set_option linter.all false
set_option maxRecDepth 100000
set_option maxHeartbeats 4000000
namespace K33
open PySem PySem.Spec PyProof.Rows L2 He
section
variable {w : World} {K : PySem.W.Frag} {h : Heap} {mg : Str → Option Value}
theorem parse_facts (X : K.In h) (G : h.Ns mainGlobals mg) (c : Hx.SaysE fa fn exK [dI] K) : PySem.Px.PTxt PySem.Challenge.pw_rulesmerged_k33_errors K mg (ga K "ParseError") (ma K (ga K "ParseError") "__init__") := by
  obtain ⟨_, x1⟩ := ba c.x
  obtain ⟨_, x2⟩ := ba x1
  obtain ⟨_, x3⟩ := ba x2
  obtain ⟨_, pb⟩ := ba x3
  obtain ⟨p1, pb⟩ := ba pb
  obtain ⟨p2, pb⟩ := ba pb
  obtain ⟨p3, pb⟩ := ba pb
  obtain ⟨p4, pb⟩ := ba pb
  obtain ⟨p5, pb⟩ := ba pb
  obtain ⟨p6, pb⟩ := ba pb
  obtain ⟨p7, pb⟩ := ba pb
  obtain ⟨p8, pb⟩ := ba pb
  obtain ⟨p9, pb⟩ := ba pb
  obtain ⟨p10, p11⟩ := ba pb
  obtain ⟨oc, od, osl, cl, dV, kV, doc, pm, an, cdv, ct, l⟩ := Hx.fnI_ok (c.i 0 (d := dI) rfl)
  obtain ⟨e1, e2, cda, cc, ccl, cl', cld, cdd, csl, ccs, vs, tf, e3, e4, h5, l1, l2, hv⟩ := PySem.Px.fnB_ok l p11
  subst e1 e2 e3 e4
  exact {
    gC := glo_ok X G (c.fact (f := .glo "ParseError") (by simp [fa, allx, excs]))
    cls := PySem.Px.clsB_ok p1
    sa := eqO_ok p2
    noN := eqO_ok p3
    iC := eqO_ok p4
    tC := of_decide_eq_true p5
    kC := p6
    file := rfl
    nosup := by decide +kernel
    sup := free_ok X G (c.fact (f := .free "super") (by simp [fa]))
    tp := eqO_ok p7
    al := eqO_ok p8
    subD := of_decide_eq_true p9
    vE := of_decide_eq_true p10
    fn := ⟨oc, od, doc, pm, an, cda, ct, osl, cc, cl', cld, csl, ccl, cdd, vs, ccs, tf, ⟨6, 17, 6, 21⟩, ⟨6, 23, 6, 27⟩, ⟨7, 8, 7, 13⟩, ⟨7, 8, 7, 15⟩, ⟨7, 8, 7, 24⟩, ⟨7, 27, 7, 50⟩, ⟨7, 51, 7, 55⟩, ⟨7, 50, 7, 56⟩, ⟨7, 25, 7, 57⟩, ⟨7, 8, 7, 58⟩, ⟨7, 8, 7, 58⟩, ⟨8, 8, 8, 12⟩, ⟨8, 8, 8, 17⟩, ⟨8, 20, 8, 24⟩, ⟨8, 8, 8, 24⟩,
      l, fun _ _ => rfl, fun _ _ => rfl, fun _ _ => rfl, h5, l1, l2, hv⟩ }
theorem facts {f : Addr} (X : K.In h) (G : h.Ns mainGlobals mg) (hfa : mg ("law" : Str) = some (.ref f)) (c : Hx.SaysE fa fn exK [dI] K) :
    ∃ fd : FuncData, (∀ (s : Shared) (v : Value), BindsTo s fd ⟨[v], []⟩ [("script", v)]) ∧ ∀ base : Heap, K.In base → base.Ns mainGlobals mg → FnOk PySem.Challenge.pw_rulesmerged_k33_errors w K mg base CX0 3 f fd ["script"] (spLaw K) := by
  obtain ⟨fd0, F0⟩ := c.d.def_ 0 rfl
  obtain ⟨fd1, F1⟩ := c.d.def_ 1 rfl
  obtain ⟨fd2, F2⟩ := c.d.def_ 2 rfl
  obtain ⟨fd3, F3⟩ := c.d.def_ 3 rfl
  obtain ⟨fd4, F4⟩ := c.d.def_ 4 rfl
  obtain ⟨fd5, F5⟩ := c.d.def_ 5 rfl
  have glo : ∀ x : Str, Fa.glo x ∈ fa → mg x = some (.ref (ga K x)) := fun x hx => glo_ok X G (c.fact hx)
  have free : ∀ x : Str, Fa.free x ∈ fa → mg x = none := fun x hx => free_ok X G (c.fact hx)
  have e := hfa.symm.trans (glo "law" (by simp [fa]))
  cases e
  have b := FunD.bindsA (ps := ["script"]) F5 fun _ _ _ _ _ _ us hl => match us, hl with | [_], _ => rfl
  obtain ⟨x0, x1⟩ := ba c.x
  obtain ⟨xA, x2⟩ := ba x1
  obtain ⟨xV, x3⟩ := ba x2
  obtain ⟨xC, pb⟩ := ba x3
  have T : ET PySem.Challenge.pw_rulesmerged_k33_errors K mg := {
    gl := fun x hx => glo x (List.mem_append_left _ (List.mem_append_right _ (List.mem_map_of_mem hx)))
    own := fun x hx => let z := exc_ok (c.fact (f := .exc x) (List.mem_append_right _ (List.mem_map_of_mem hx))); ⟨z.1, z.2.1⟩
    xc := fun x hx => PySem.Px.excB_ok (List.all_eq_true.mp xC x hx)
    kit := fun x hx y hy => of_decide_eq_true (List.all_eq_true.mp (List.all_eq_true.mp x0 x hx) y hy)
    kitA := fun x hx => of_decide_eq_true (List.all_eq_true.mp xA x hx)
    kitV := fun x hx => of_decide_eq_true (List.all_eq_true.mp xV x hx)
    pt := ⟨_, parse_facts X G c⟩
    isi := free "isinstance" (by simp [fa])
    any := free "any" (by simp [fa])
    VE := free "ValueError" (by simp [fa]) }
  have PT : PenT mg (ga K "_law_next") := ⟨glo _ (by simp [fa]), free _ (by simp [fa]), free _ (by simp [fa]), free _ (by simp [fa])⟩
  have L : LT mg (ga K "_law_pen") (ga K "_law_draw") (ga K "_law_of") (ga K "_law_errors") := ⟨glo _ (by simp [fa]), glo _ (by simp [fa]), glo _ (by simp [fa]), glo _ (by simp [fa]), free _ (by simp [fa]), free _ (by simp [fa])⟩
  exact ⟨fd5, fun s v => b s [v] rfl, fun base _ _ => ok_law L T PT F0 F1 F2 F3 F4 F5⟩
end
end K33
open PySem PySem.W PySem.Calls PyProof.Rows
theorem PySem.Challenge.cw_rulesmerged_k33_errors_holds : PySem.Challenge.rw_rulesmerged_k33_errors.Holds := by
  w_on; o_law
  refine HandSHeadRun.head_any (r := OpenLaw.row PySem.Challenge.rw_rulesmerged_k33_errors) (q := view (OpenLaw.row PySem.Challenge.rw_rulesmerged_k33_errors).prog [38]) (H := K33.hk) (ob := K33.ob) (M := 9000) (loose := K33.loose) (d := HandSHeadRun.topDef (OpenLaw.row PySem.Challenge.rw_rulesmerged_k33_errors).prog 38) (kwd := []) K33.ob_eq
    (by kernel_rfl) (fun s => by kernel_rfl) K33.run (by kernel_rfl) (by kernel_rfl) (by kernel_rfl) (by rfl) (by first | assumption | decide +kernel) (by decide +kernel) ⟨rfl, rfl, rfl, rfl, rfl, by decide +kernel⟩ ?hw ?hc
  case hw => w_witness2
  case hc =>
    refine L2.walk_ofE (l := PySem.Challenge.rw_rulesmerged_k33_errors) (n := 63) (k := 3) (x := "script") (CX := L2.CX0) rfl (by decide) (by kernel_rfl) ⟨rfl, by decide, by decide⟩ ?F (fun _ _ _ _ z => z)
    intro w mg fa h Y G hmg0
    obtain ⟨K, KX, c⟩ := Y
    have hmg : mg ("law" : PySem.Str) = some (.ref fa) := by
      have e : (HandSHeadRun.topDef (OpenLaw.row PySem.Challenge.rw_rulesmerged_k33_errors).prog 38).name = ("law" : PySem.Str) := by kernel_rfl
      rw [← e]
      exact hmg0
    obtain ⟨fd, hb, hF⟩ := K33.facts (w := w) KX G hmg c
    exact ⟨K, fd, K33.spLaw K, KX, hb, fun H a ns hl _ hS => ⟨a, ns, rfl, hS, fun _ => rfl⟩, hF⟩
