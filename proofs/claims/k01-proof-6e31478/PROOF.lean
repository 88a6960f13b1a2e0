import PyProof.Rows.All
import Wide.All
import OpenK.AllK
import Wide.FinOn
import KE.KStateDown
import Lean
import HandS.Base
import HandS.Call
import HandS.Ends
import HandS.More
import HandS.Words
import HandS.WordsExc
import HandS.Defaults
import HandS.Head0
import HandS.Head1
import HandS.Head2
import HandS.HeadEnd
import HandS.HeadHook1
import HandS.HeadHook2
import HandS.Lambda
import HandS.EndTab
import HandS.IsInst
import HandS.RaiseMore
import HandS.ForMost
import PyProof.ReprRoads
import HandS.ExcValue
import HandS.ExcField
import HandS.Evl
import HandS.StrMore
import KE.KExcIs
import HandS.ExcIs
import HandS.TryOnly
import HandS.Walk
import HandS.WordsDict
import HandS.List
import HandS.Comp
import HandS.Wide
import HandS.WordsList
import HandS.OwnEq
import HandS.DictEq
import PyProof.InstNe
import KE.KEqDict
import HandS.DictTup
import KE.SortData
import KE.GoesMore
import KE.GoesEnum
import PyProof.Draws
import HandS.DictComp
import KE.KDictPairs
import HandS.Dict
import HandS.Style
import HandS.TupAny
import KE.KRevSl
import HandS.Property
import PyProof.AssignAttr
import HandS.TupMul
import HandS.Set
import HandS.ListItems
import PyProof.ReprLen
import HandS.Finally
import PyProof.StrOps2
import PySem.Challenge.RW_rulesmerged_k01_names_and_schemas
set_option Elab.async false
set_option linter.all false
set_option maxRecDepth 100000
set_option maxHeartbeats 0
/-! a head by facts, one more Bool, and defs with a closure -/
namespace Hx
open PySem PySem.Spec PyProof.Rows L2 He
/-- a def that may close over something: what its text tells -/
abbrev FnI : Type := Option (Str × Str × Arguments × FuncBody × Scope × Addr × Addr)
def fnI (K : PySem.W.Frag) (p : Str × Option Str) : FnI := match K.lookup (fAd K p) with
  | some ⟨_, _, .func fd, _⟩ => some (fd.name, fd.qualname, fd.params, fd.body, fd.scope, fd.globals, fd.builtins)
  | _ => none
abbrev AlE : Type := AlD × Bool × List FnI
def obsE (fa : List Fa) (fn : List DefD) (ex : PySem.W.Frag → Bool) (cl : List DefD) (K : PySem.W.Frag) : AlE := (obsD fa fn K, ex K, cl.map fun d => fnI K d.at_)
def valI (d : DefD) : FnI := some (d.name, d.qual, d.params, .stmts d.body, d.scope, mainGlobals, builtinsNs)
def valE (fn cl : List DefD) : AlE := (valD fn, true, cl.map valI)
def SaysE (fa : List Fa) (fn : List DefD) (ex : PySem.W.Frag → Bool) (cl : List DefD) (K : PySem.W.Frag) : Prop := obsE fa fn ex cl K = valE fn cl
def obsEG (n : Nat) (fa : List Fa) (fn : List DefD) (ex : PySem.W.Frag → Bool) (cl : List DefD) (g : Addr → Option Obj) : AlE := obsE fa fn ex cl (frG g (cStatics :: asD g n))
def hookE (n : Nat) (fa : List Fa) (fn : List DefD) (ex : PySem.W.Frag → Bool) (cl : List DefD) : PySem.W.Hook where
  α := AlE
  obs := fun s => obsEG n fa fn ex cl s.heap.get?
  val := fun _ => valE fn cl
  says := fun _ h => ∃ K : PySem.W.Frag, K.In h ∧ SaysE fa fn ex cl K
  of := fun _ _ e => ⟨_, frG_in, e⟩
  keeps := fun _ _ _ ⟨K, hK, c⟩ k => ⟨K, PySem.W.Frag.In.keeps hK k, c⟩
theorem obsEG_eq {n : Nat} {fa : List Fa} {fn : List DefD} {ex : PySem.W.Frag → Bool} {cl : List DefD} {g : Addr → Option Obj} {s : Shared} (h : ∀ a, g a = s.heap.get? a) : obsEG n fa fn ex cl g = (hookE n fa fn ex cl).obs s := by
  have e : g = s.heap.get? := funext h
  rw [e] <;> rfl
section
variable {fa : List Fa} {fn : List DefD} {ex : PySem.W.Frag → Bool} {cl : List DefD} {K : PySem.W.Frag}
theorem SaysE.d (c : SaysE fa fn ex cl K) : SaysD fa fn K := congrArg (fun z : AlE => z.1) c
theorem SaysE.x (c : SaysE fa fn ex cl K) : ex K = true := congrArg (fun z : AlE => z.2.1) c
theorem SaysE.i (c : SaysE fa fn ex cl K) (i : Nat) {d : DefD} (h : cl[i]? = some d := by rfl) : fnI K d.at_ = valI d := by
  have e : (cl.map fun d => fnI K d.at_) = cl.map valI := congrArg (fun z : AlE => z.2.2) c
  have e2 : (cl.map fun d => fnI K d.at_)[i]? = (cl.map valI)[i]? := by rw [e]
  rw [List.getElem?_map, List.getElem?_map, h] at e2
  exact Option.some.inj e2
theorem SaysE.fact (c : SaysE fa fn ex cl K) {f : Fa} (h : f ∈ fa) : f.ok K = true := by
  obtain ⟨i, hi, e⟩ := List.mem_iff_getElem.mp h
  exact c.d.fact i (f := f) (by rw [List.getElem?_eq_getElem hi, e])
end
/-- d : K's def with a closure, its object -/
theorem fnI_ok {K : PySem.W.Frag} {d : DefD} (e : fnI K d.at_ = valI d) : ∃ oc od osl cl dV kV doc pm an cdv ct, K.lookup (fAd K d.at_) = some ⟨oc, od, .func (PySem.W.fnX d.name d.qual d.params d.body d.scope cl dV kV doc pm an cdv ct), osl⟩ := by
  unfold fnI valI at e
  cases q : K.lookup (fAd K d.at_) with
  | none =>
    rw [q] at e
    cases e
  | some o =>
    obtain ⟨oc, od, dt, osl⟩ := o
    rw [q] at e
    cases dt with
    | func fd =>
      obtain ⟨n1, n2, n3, n4, n5, n6, n7, n8, n9, n10, n11, n12, n13, n14, n15⟩ := fd
      have e2 : (some (n1, n2, n3, n4, n5, n6, n15) : FnI) = some (d.name, d.qual, d.params, .stmts d.body, d.scope, mainGlobals, builtinsNs) := e
      simp only [Option.some.injEq, Prod.mk.injEq] at e2
      obtain ⟨h1, h2, h3, h4, h5, h6, h7⟩ := e2
      subst h1 h2 h3 h4 h5 h6 h7
      exact ⟨oc, od, osl, n7, n8, n9, n10, n11, n12, n13, n14, rfl⟩
    | _ => cases e
end Hx
set_option Elab.async false
set_option linter.all false
set_option maxRecDepth 100000
set_option maxHeartbeats 4000000
/-! data with dicts, its repr; defs that are promised where nothing is being shown (the guards) -/
namespace Gd
open PySem PySem.Spec PyProof.Rows L2
def keyD : Key → PyData
  | .inl i => .int i
  | .inr x => .str x
mutual
inductive Dq (K : PySem.W.Frag) (H : Hp) : V → PyData → Prop
  | non : Dq K H .non .none
  | bl (b : Bool) : Dq K H (.bl b) (.bool b)
  | int (i : Int) : Dq K H (.int i) (.int i)
  | str (x : Str) : Dq K H (.str x) (.str x)
  | lst {a : Addr} {vs : List V} {ds : List PyData} (h : Rd H a (.lst vs)) (r : DqAll K H vs ds) : Dq K H (.ref a) (.list ds)
  | tup {a : Addr} {vs : List V} {ds : List PyData} (h : Rd H a (.tup vs)) (r : DqAll K H vs ds) : Dq K H (.ref a) (.tuple ds)
  | dct {a : Addr} {kvs : List (Key × V)} {ds : List (PyData × PyData)} (h : Rd H a (.dK kvs)) (k : ds.map (·.1) = kvs.map fun p => keyD p.1) (r : DqAll K H (kvs.map (·.2)) (ds.map (·.2))) : Dq K H (.ref a) (.dict ds)
inductive DqAll (K : PySem.W.Frag) (H : Hp) : List V → List PyData → Prop
  | nil : DqAll K H [] []
  | cons {v : V} {vs : List V} {d : PyData} {ds : List PyData} (h : Dq K H v d) (r : DqAll K H vs ds) : DqAll K H (v :: vs) (d :: ds)
end
/-- sys.modules is a dict of the written part -/
def SysD (K : PySem.W.Frag) : Prop := ∃ (o : Obj) (es : Array DictEntry) (ep : Nat), K.lookup sysModules = some o ∧ o.data = .dict es ep
def sysB (K : PySem.W.Frag) : Bool := match K.lookup sysModules with
  | some ⟨_, _, .dict _ _, _⟩ => true
  | _ => false
theorem sysB_ok {K : PySem.W.Frag} (h : sysB K = true) : SysD K := by
  unfold sysB at h
  split at h
  · rename_i e
    exact ⟨_, _, _, e, rfl⟩
  · cases h
section
variable {X : Cx} {pins : List (Addr × Obj)} {σ : L2.St} {H : Hp} {s : Shared}
theorem keys_read {h : Heap} {w : World} {P : Program} {es : List DictEntry} {vs : List (Key × Value)} (p : PySem.Pairs (mixKind P w) es vs) : ReadsAll h (es.map (·.key)) (vs.map fun q => keyD q.1) [] := by
  induction p with
  | nil => exact .nil
  | @cons e kv es kvs hk hv r ih =>
    have hk' : keyIs kv.1 e.key = true := hk
    have one : Reads h e.key (keyD kv.1) [] := by
      rcases keyIs_shape hk' with ⟨i, t, e1, e2⟩ | ⟨x, t, e1, e2⟩
      · rw [e1, e2]
        exact Reads.int i t
      · rw [e1, e2]
        exact Reads.str x t
    exact ReadsAll.cons one ih
theorem vals_of {w : World} {P : Program} {es : List DictEntry} {vs : List (Key × Value)} (p : PySem.Pairs (mixKind P w) es vs) : es.map (·.val) = vs.map (·.2) := by
  induction p with
  | nil => rfl
  | cons hk hv r ih => rw [List.map_cons, List.map_cons, ih, hv]
theorem kv_vals {kvs : List (Key × V)} {vs : List (Key × Value)} (r : KV kvs vs) : Vals (kvs.map (·.2)) (vs.map (·.2)) := by
  unfold KV at r
  induction r with
  | nil => exact .nil
  | cons h _ ih => exact .cons h.2 ih
theorem kv_keys {kvs : List (Key × V)} {vs : List (Key × Value)} (r : KV kvs vs) : (vs.map fun q => keyD q.1) = kvs.map fun q => keyD q.1 := by
  unfold KV at r
  induction r with
  | nil => rfl
  | cons h _ ih => rw [List.map_cons, List.map_cons, ih, h.1]
theorem not_sys {a : Addr} {o : Obj} (I : Inv X pins σ H s) (hS : SysD X.K) (ho : s.heap.get? a = some o) (hd : ∀ es ep, o.data ≠ .dict es ep) : a ≠ sysModules := fun e => by
  obtain ⟨o', es, ep, h1, h2⟩ := hS
  have h3 := I.kIn _ _ h1
  rw [← e, ho] at h3
  cases h3
  exact hd es ep h2
theorem size_snd : ∀ ds : List (PyData × PyData), sizeOf (ds.map (·.2)) ≤ sizeOf ds
  | [] => Nat.le_refl _
  | (k, v) :: r => by
    have ih := size_snd r
    simp only [List.map_cons, List.cons.sizeOf_spec, Prod.mk.sizeOf_spec]
    omega
mutual
theorem Dq.reads (I : Inv X pins σ H s) (hS : SysD X.K) : ∀ (d : PyData) (v : V) (u : Value), Dq X.K H v d → RelV v u → ∃ as, Reads s.heap u d as ∧ sysModules ∉ as
  | .none, _, _, h, r => by
    cases h
    cases r
    exact ⟨_, Reads.none, by simp⟩
  | .bool b, _, _, h, r => by
    cases h
    cases r
    exact ⟨_, Reads.bool b, by simp⟩
  | .int i, _, _, h, r => by
    cases h
    obtain ⟨t, rfl⟩ := r
    exact ⟨_, Reads.int i t, by simp⟩
  | .str x, _, _, h, r => by
    cases h
    obtain ⟨t, rfl⟩ := r
    exact ⟨_, Reads.str x t, by simp⟩
  | .list ds, _, _, h, r => by
    cases h with
    | lst hs ha =>
      cases r
      obtain ⟨its, rv, ⟨o, n, ho, hc, _, hd⟩, _⟩ := I.list (.inl hs)
      obtain ⟨as, hr, hn⟩ := Dq.readsAll I hS ds _ its ha rv
      have na := not_sys I hS ho fun es ep z => by
        rw [hd] at z
        cases z
      exact ⟨_, Reads.list ho hc hd hr, fun z => (List.mem_cons.mp z).elim (fun e => na e.symm) hn⟩
  | .tuple ds, _, _, h, r => by
    cases h with
    | tup hs ha =>
      cases r
      obtain ⟨its, rv, ⟨o, ho, hc, n, hd⟩, _⟩ := I.tuple (.inl hs)
      obtain ⟨as, hr, hn⟩ := Dq.readsAll I hS ds _ its ha rv
      exact ⟨_, Reads.tuple ho hc hd hr, hn⟩
  | .dict ds, _, _, h, r => by
    cases h with
    | @dct a kvs _ hr hk ha =>
      cases r
      obtain ⟨_, hsys, vs, kv, o, es, ep, ho, hx, hd, _, hp, _⟩ := hr.ok I.hok
      have r1 := keys_read (h := s.heap) hp
      rw [kv_keys kv, ← hk] at r1
      obtain ⟨bs, r2, hn⟩ := Dq.readsAll I hS (ds.map (·.2)) _ _ ha (kv_vals kv)
      rw [← vals_of hp] at r2
      have na : a ≠ sysModules := fun e => by
        rw [e] at hsys
        exact absurd hsys (by decide)
      exact ⟨_, Reads.dict ho hx.1 hd r1 r2, fun z => by
        rcases List.mem_cons.mp z with e | e
        · exact na e.symm
        · exact hn (by simpa using e)⟩
  termination_by d => sizeOf d
  decreasing_by
    all_goals first
      | decreasing_tactic
      | (have q := size_snd ds
         simp only [PyData.dict.sizeOf_spec]
         omega)
theorem Dq.readsAll (I : Inv X pins σ H s) (hS : SysD X.K) : ∀ (ds : List PyData) (vs : List V) (us : List Value), DqAll X.K H vs ds → Vals vs us → ∃ as, ReadsAll s.heap us ds as ∧ sysModules ∉ as
  | [], _, _, h, r => by
    cases h
    cases r
    exact ⟨_, ReadsAll.nil, by simp⟩
  | d :: ds, _, _, h, r => by
    cases h with
    | cons h1 h2 =>
      cases r with
      | cons r1 r2 =>
        obtain ⟨as, q1, n1⟩ := Dq.reads I hS d _ _ h1 r1
        obtain ⟨bs, q2, n2⟩ := Dq.readsAll I hS ds _ _ h2 r2
        exact ⟨_, ReadsAll.cons q1 q2, fun z => (List.mem_append.mp z).elim n1 n2⟩
  termination_by ds => sizeOf ds
end
end
/-! ### repr -/
/-- what is shown is within the line and its ints are short -/
def Fit (d : PyData) : Prop := d.showable = true ∧ d.shown.length ≤ sizeLine ∧ d.depth ≤ 60
def rRepr (K : PySem.W.Frag) : List V → Hp → VK → Prop := fun xs H Q => ∃ (x : V) (d : PyData), xs = [x] ∧ Dq K H x d ∧ Fit d ∧ Q (.str d.shown) H
section
variable {X : Cx}
theorem call_repr (hg : X.A.guards = some []) (hu : X.A.units + 64 < cLine) (hS : SysD X.K) : CallR X (.builtin "repr") (rRepr X.K) := by
  intro pins s σ H xs us Q I r h
  obtain ⟨x, d, e, hd, ⟨h1, h2, h3⟩, q⟩ := h
  subst e
  obtain ⟨u, e, rx⟩ := vals1 r
  subst e
  cases hd with
  | non =>
    cases (show u = Value.none from rx)
    exact PySem.P.repr_of_none ⟨.str _, H, I.tok _, ⟨_, rfl⟩, q⟩
  | bl b =>
    cases (show u = Value.bool b from rx)
    refine PySem.P.repr_of_bool ⟨.str _, H, I.tok _, ⟨_, rfl⟩, ?_⟩
    simpa only [PyData.shown] using q
  | int i =>
    obtain ⟨t, e⟩ := (show ∃ t, u = Value.int i t from rx)
    subst e
    refine PySem.P.repr_of_int (by simpa only [PyData.showable, decide_eq_true_eq] using h1) ⟨.str _, H, I.tok _, ⟨_, rfl⟩, ?_⟩
    simpa only [PyData.shown] using q
  | str z =>
    obtain ⟨t, e⟩ := (show ∃ t, u = Value.str z t from rx)
    subst e
    have h2' : (reprText z).length ≤ sizeLine := by simpa only [PyData.shown] using h2
    refine PySem.P.repr_of_str ⟨.str _, H, I.tok _, ⟨_, rfl⟩, ?_⟩ h2'
    simpa only [PyData.shown] using q
  | @lst a vs ds hs ha =>
    have hd' : Dq X.K H (.ref a) (.list ds) := .lst hs ha
    cases (show u = Value.ref a from rx)
    obtain ⟨as, r1, n1⟩ := Dq.reads I hS _ _ _ hd' rfl
    refine repr_of_reads' r1 h1 (fun _ => n1) hg (by omega) (fun _ _ e => e) (fun h' w' tk k => ?_) h2
    exact ⟨.str _, H, I.kept (h' := h') k, ⟨_, rfl⟩, q⟩
  | @tup a vs ds hs ha =>
    have hd' : Dq X.K H (.ref a) (.tuple ds) := .tup hs ha
    cases (show u = Value.ref a from rx)
    obtain ⟨as, r1, n1⟩ := Dq.reads I hS _ _ _ hd' rfl
    refine repr_of_reads' r1 h1 (fun _ => n1) hg (by omega) (fun _ _ e => e) (fun h' w' tk k => ?_) h2
    exact ⟨.str _, H, I.kept (h' := h') k, ⟨_, rfl⟩, q⟩
  | @dct a kvs ds hs hk ha =>
    have hd' : Dq X.K H (.ref a) (.dict ds) := .dct hs hk ha
    cases (show u = Value.ref a from rx)
    obtain ⟨as, r1, n1⟩ := Dq.reads I hS _ _ _ hd' rfl
    refine repr_of_reads' r1 h1 (fun _ => n1) hg (by omega) (fun _ _ e => e) (fun h' w' tk k => ?_) h2
    exact ⟨.str _, H, I.kept (h' := h') k, ⟨_, rfl⟩, q⟩
end
/-! ### defs that are promised where nothing is being shown -/
theorem deeper_guards {A : Around} {e : Env} (h : A.guards = some []) : (A.deeper e).guards = some [] := by
  simpa [Around.deeper] using h
/-- a def that lets nothing out, called where no guard stands -/
structure FnG (P : Program) (w : World) (K : PySem.W.Frag) (mg : Str → Option Value) (base : Heap) (k : Nat) (f : Addr) (fd : FuncData) (ps : List Str) (sp : Sp) : Prop where
  len : ∀ vs H Q E, sp vs H Q E → vs.length = ps.length
  run : ∀ (A : Around) (outer : List Env) (s : Shared) (H : Hp) (args : Args) (us : List Value) (vs : List V) (Q : VK), A.guards = some [] → Room k A → Env0 P w K mg base A outer s H → BindsTo s fd args (ps.zip us) → Vals vs us → sp vs H Q E0 →
    codeAny (model P w) A (.call (.ref f) args) (CR C8.CX0 outer P w H s Q E0) s
section
variable {P : Program} {w : World} {K : PySem.W.Frag} {mg : Str → Option Value} {base : Heap}
theorem FnG.of {x : Str} {params : Arguments} {body : List Stmt} {scope : Scope} {dvs : List V} {kws : List (Str × V)} {f : Addr} {fd : FuncData} {N ps : List Str} {k : Nat} {sp : Sp} (F : FunD K x x params body scope dvs kws f fd) (S : FnScope N ps scope)
    (len : ∀ vs H Q E, sp vs H Q E → vs.length = ps.length)
    (hbody : ∀ {cdv : Value} {A : Around} {outer : List Env} {s : Shared} {H : Hp} {vs : List V} {Q : VK}, (A.deeper (envOfC x scope s.heap.objs.size f cdv)).guards = some [] → Room k (A.deeper (envOfC x scope s.heap.objs.size f cdv)) → sp vs H Q E0 →
      ∃ t, PSs (cxOf C8.CX0 P w K mg base N x scope f cdv A outer s H E0).nox body t ∧ t { nx := fun _ H' => Q .non H', rt := Q } (L2.start N vs) H) : FnG P w K mg base (k + 1) f fd ps sp := by
  obtain ⟨oc, od, dV, kV, doc, pm, an, cdv, ct, osl, rfl, lk, hcd, _, _⟩ := F.ex
  refine ⟨len, ?_⟩
  intro A outer s H args us vs Q hg hr e0 hb r hsp
  refine LamX.run_ofS lk hcd S hr e0 hb r (len _ _ _ _ hsp) fun hr' => ?_
  obtain ⟨t, h1, h2⟩ := hbody (cdv := cdv) (outer := outer) (deeper_guards hg) hr' hsp
  exact ⟨t, h1.nox, h2⟩
end
section
variable {X : Cx} {k : Nat} {f : Addr} {fd : FuncData} {ps : List Str} {sp : Sp} {x : Str} {p pos : Pos} {e : Expr} {es : List Expr} {t : TA}
theorem pe_callG (F : FnG X.prog X.w X.K X.mg X.base k f fd ps sp) (hgd : X.A.guards = some []) (hr : Room k X.A) (hg : Gl X x) (hm : X.mg x = some (.ref f)) (hk : PySem.W.keepIn X.K (.ref f) = true) (hb : Binds X.K fd ps [])
    (ha : PA X (e :: es) t) (hdb : (x == ("__debug__" : Str)) = false := by decide) (he : starEach (e :: es) X.env = (false, eval e X.env) :: starEach es X.env := by rfl) (hpl : (backTo pos (starEach es X.env)).any (·.1) = false := by rfl) :
    PE X (.Call (.Name x p) (e :: es) [] pos) (tCall sp [] E0 t) := by
  constructor
  intro pins s σ H Q I h
  refine wpAny_Call_Name_kw (ld_glob I hg hm ?_ hdb)
  refine PySem.W.callWith_K (h₀ := X.base) I.ok.mod.kin hk (thn (ha.run pos pins s σ H _ I h) fun us s1 ⟨vs, H1, I1, r, q⟩ => ⟨I1.kIn, ?_⟩) he hpl
  have q' : sp vs H1 Q E0 := by
    have e1 : vs ++ [] = vs := List.append_nil vs
    rw [← e1]
    exact q
  have hl : (us ++ ([] : List Value)).length = ps.length := by
    rw [List.append_nil, ← r.length]
    exact F.len _ _ _ _ q'
  have hb' := hb s1 us I1.kIn hl
  rw [List.append_nil] at hb'
  refine wpAny_call (codeAny_mono (F.run _ _ _ _ _ us vs _ hgd hr I1.env0 hb' r q') fun r' s' hq => ?_)
  match r', hq with
  | .error _, hq => exact False.elim hq
  | .ok (.ret _), hq => exact I1.after hq
  | .ok .next, hq => exact False.elim hq
  | .ok .brk, hq => exact False.elim hq
  | .ok .cont, hq => exact False.elim hq
end
end Gd
set_option Elab.async false
set_option linter.all false
set_option maxRecDepth 100000
set_option maxHeartbeats 4000000
/-! try: .. except C as e: suite, where what was caught is still known behind the suite -/
namespace Gd
open PySem PySem.Spec PyProof.Rows L2
/-- an exception of the class cls stands at a -/
def Exn (cls : Value) (d : Option Addr) (a : Addr) : HO := .ext fun h => ∃ (oe : Obj) (vs : Array Value), h.get? a = some oe ∧ Zc cls d oe ∧ oe.data = .fields vs
section
variable {X : Cx} {pins : List (Addr × Obj)} {σ : L2.St} {H : Hp} {s : Shared} {a : Addr} {cls : Value} {d : Option Addr} {oe : Obj} {vs : Array Value}
/-- from now on it is tracked -/
theorem Inv.gain (I : Inv X pins σ H s) (na : H a = none) (n0 : X.s_0.heap.get? a = none) (nL : a ≠ X.env.locals) (np : ∀ p ∈ X.pn ++ pins, p.1 ≠ a) (he : s.heap.get? a = some oe) (hz : Zc cls d oe) (hd : oe.data = .fields vs) : Inv X pins σ (L2.upd H a (Exn cls d a)) s := by
  have u0 : ∀ b o, X.s_0.heap.get? b = some o → b ≠ a := fun b o e z => by
    rw [z, n0] at e
    cases e
  have un : ∀ b o, H b = some o → b ≠ a := fun b o e => ne_of_none e na
  have new : ObjOk X.prog X.w (L2.upd H a (Exn cls d a)) s.heap a (Exn cls d a) := ⟨⟨oe, vs, he, hz, hd⟩, ⟨oe, he⟩, fun h1 h2 ⟨o1, v1, q1, q2, q3⟩ k => ⟨o1, v1, k _ q1, q2, q3⟩⟩
  have base : Un X.fs X.ex X.H_0 (L2.upd H a (Exn cls d a)) X.s_0.heap s.heap := {
    keep := I.base.keep
    slot := I.base.slot
    free := fun b o e n x => (upd_ne (u0 b o e)).trans (I.base.free b o e n x)
    there := I.base.there
    tups := fun b xs e => (upd_ne (un _ _ (I.base.tups b xs e))).trans (I.base.tups b xs e)
    frzs := fun b o u e => (upd_ne (un _ _ (I.base.frzs b o u e))).trans (I.base.frzs b o u e)
    tbls := fun b ps e => by
      obtain ⟨m, q⟩ := I.base.tbls b ps e
      exact ⟨m, (upd_ne (un _ _ q)).trans q⟩ }
  refine ⟨I.ok, I.os, I.bare, base, I.loc, I.cell, (upd_ne nL.symm).trans I.free, fun y c e => ?_, fun p hp => ?_, I.hok.laidN (fun _ _ e => e) na new, I.len⟩
  · have nc : c ≠ a := fun z => by
      obtain ⟨v, o, ho, hc⟩ := I.cell y c e
      rw [z, he] at ho
      cases ho
      rw [hd] at hc
      cases hc
    exact (upd_ne nc).trans (I.freeC y c e)
  · obtain ⟨e1, e2, e3⟩ := I.pin p hp
    exact ⟨e1, (upd_ne (np p hp)).trans e2, e3⟩
end
/-- what the clause wishes: behind the suite the caught one is tracked -/
def wKept (K : PySem.W.Frag) (m : Nat) (c : Value) (i : Nat) (ts : Addr → Value → Option Addr → TS) (Wo : WX) (D : Ends) : WX := fun cls d σ H =>
  σ.length = m → ∃ b, PySem.W.exmOne K cls c = some b ∧ (b = false → Wo cls d σ H) ∧
    (b = true → ∀ a, H a = none → ts a cls d ⟨fun σ' H' => D.nx (σ'.set i none) (L2.upd H' a (Exn cls d a)), D.rt, fun σ' H' => D.bk (σ'.set i none) H', fun σ' H' => D.ct (σ'.set i none) H'⟩ (σ.set i (some (.ref a))) H)
section
variable {X : Cx} {x n : Str} {c : Value} {i : Nat} {body rest : List Stmt} {b₀ : Stmt} {np q1 q2 : Pos} {tb : WX → TS} {ts : Addr → Value → Option Addr → TS} {Wo : WX}
theorem ps_try_kept (hs : X.stack = X.env :: X.outer) (hf : X.env.frame = some X.env.locals) (hN : X.N.Nodup) (hi : X.N[i]? = some n) (hln : X.env.kindOf n = some .local) (hc : Names X x c) (tk : Takes X Wo) (hex : X.ex = [])
    (hb : ∀ (W : WX) (pn : List (Addr × Obj)) (xe : Value → Shared → Prop), Takes (X.tr pn xe) W → PassesOwn (model X.prog X.w) X.A X.env xe → PSs (X.tr pn xe) body (tb W))
    (hsu : ∀ (a : Addr) (oe : Obj) (cls : Value) (d : Option Addr) (pn : List (Addr × Obj)), Zc cls d oe → (∃ vs, oe.data = .fields vs) → PSs (X.suite a ((a, oe) :: pn)) (b₀ :: rest) (ts a cls d)) :
    PS X (.Try body [.ExceptHandler (some (.Name x np)) (some n) (b₀ :: rest) q2] [] [] q1) (fun D σ H => tb (wKept X.K X.N.length c i ts Wo D) D σ H) := by
  constructor
  intro pins s σ H D I h
  have ok := I.ok
  have loc : Loc X.env.scope n := .inl hln
  have fr0 : X.A.frames = some (X.env :: X.outer) := hs ▸ ok.frames
  refine wpAny_Try_except ?_
  refine wpAny_mono ((hb (wKept X.K X.N.length c i ts Wo D) (X.pn ++ pins) _ (fun u s' xx => ?met) PassesOwn.looking).run [] s σ H D (I.toTry _) h) (fun f s1 hsp => ?through) (fun _ _ z => z)
  case through =>
    match f, hsp with
    | .next, ⟨σ', H', J, q⟩ => exact wpAny_execs_nil ⟨σ', H', J.ofTry ok, q⟩
    | .brk, ⟨σ', H', J, q⟩ => exact ⟨σ', H', J.ofTry ok, q⟩
    | .cont, ⟨σ', H', J, q⟩ => exact ⟨σ', H', J.ofTry ok, q⟩
    | .ret u, ⟨v, σ', H', J, r, q⟩ => exact ⟨v, σ', H', J.ofTry ok, r, q⟩
  case met =>
    obtain ⟨a, B, t0, pins1, σ1, H1, cls, d, eu, K0, nb, up, sky, na, eos, bar, wish⟩ := xx
    obtain ⟨b, eb, no, yes⟩ := wish K0.len
    subst eu
    have J : Inv X pins σ1 H1 t0 := K0.ofTry ok
    rw [show (X.tr (X.pn ++ pins) _).stack = X.env :: X.outer from hs] at sky
    show wpAny (model X.prog X.w) X.A (noteFrame (.ref a) X.env) _ _ _
    refine Sky.land Zc.steady fr0 hf sky fun h3 fl3 up3 => ?_
    have J3 : Inv X pins σ1 H1 { s' with heap := h3 } := J.landed nb fl3.1 (up.trans up3) eos bar
    obtain ⟨oe3, vs3, he3, hz3, hd3⟩ := fl3.there
    have nfr : a ∉ frs (X.env :: X.outer) := fun hm => by
      obtain ⟨_, o1, e1, hn1⟩ := fl3.2.2.1.mem hm
      rw [he3] at e1
      cases e1
      exact hn1 _ hd3
    have nL : a ≠ X.env.locals := fun z => nfr (List.mem_filterMap.mpr ⟨X.env, List.mem_cons_self, hf.trans (congrArg some z.symm)⟩)
    have nF : a ∉ X.fs := fun hm => by
      obtain ⟨e1, h1, q⟩ := List.mem_filterMap.mp hm
      exact nfr (List.mem_filterMap.mpr ⟨e1, List.mem_cons_of_mem _ h1, q⟩)
    have t0a : t0.heap.get? a = none := by
      cases q : t0.heap.get? a with
      | none => rfl
      | some o =>
        have z := nb a o q (hs ▸ nfr)
        rw [fl3.2.1] at z
        cases z
    have n0 : X.s_0.heap.get? a = none := by
      cases q : X.s_0.heap.get? a with
      | none => rfl
      | some o =>
        obtain ⟨o1, z⟩ := J.base.there a o q (by rw [hex]; exact List.not_mem_nil)
        rw [t0a] at z
        cases z
    have apart : ∀ p ∈ X.pn ++ pins, p.1 ≠ a := fun p hp z => by
      have q := (J.pin p hp).1
      rw [z, t0a] at q
      cases q
    have S3 := J3.suite he3 hd3 na nL nF
    refine wpAny_handleBy_cons (codeAny_handlers_test ?_) (by intro q; cases q)
    have LT : PySem.W.Looks (model X.prog X.w) h3 (typeOf (.ref a)) cls := fun A Q E t k q => wpAny_typeOf_ref (k _ _ he3) (hz3.1 ▸ q)
    have LM := PySem.W.exm_one (M := model X.prog X.w) J3.kIn LT eb
    have test : ∀ (Q E : Value → Shared → Prop), Q c { s' with heap := h3 } → wpAny (model X.prog X.w) (X.A.mark (some (.ref a))) (eval (.Name x np) X.env) Q E { s' with heap := h3 } := by
      intro Q E q
      obtain ⟨g1, g2, g3⟩ := hc
      rcases g3 with g3 | ⟨g3, g4, g5⟩
      · exact ld_glob (X := X.suite a ((a, oe3) :: (X.pn ++ pins))) S3 g1 g3 q g2
      · exact ld_blt (X := X.suite a ((a, oe3) :: (X.pn ++ pins))) S3 g1 g3 g4 q g5 g2
    refine test _ _ (LM.here ?_)
    match b, yes, no with
    | true, yes, _ =>
      refine codeAny_handlers_suite_as (HandSPX.lands_againZ fl3 fun h4 fl4 up4 => ?_)
      have J4 : Inv X pins σ1 H1 { s' with heap := h4 } := J.landed nb fl4.1 ((up.trans up3).trans up4) eos bar
      obtain ⟨oe4, vs4, he4, hz4, hd4⟩ := fl4.there
      refine store_ok (X := X.suite a ((a, oe4) :: (X.pn ++ pins))) (v := .ref a) (J4.suite he4 hd4 na nL nF) hN hi loc rfl (fun s5 S5 => ?_) (.inr hln)
      refine wpAny_mono ((hsu a oe4 cls d (X.pn ++ pins) hz4 ⟨_, hd4⟩).run [] s5 _ H1 _ S5 (yes rfl a na)) (fun f s6 q6 => ?_) (fun _ _ z => False.elim z)
      have gone : ∀ {σ6 : L2.St} {H6 : Hp} {Q : Shared → Prop}, Inv (X.suite a ((a, oe4) :: (X.pn ++ pins))) [] σ6 H6 s6 → (∀ s7, Inv (X.suite a ((a, oe4) :: (X.pn ++ pins))) [] (σ6.set i none) H6 s7 → Q s7) →
          wpAny (model X.prog X.w) X.A (do bindName X.env n .none; unbindBehindTheSuite X.env n q2) (fun _ s7 => Q s7) X.xe s6 := fun {_ _ _} S6 hq => gone_ok (X := X.suite a ((a, oe4) :: (X.pn ++ pins))) S6 hN hi hln hq
      match f, q6 with
      | .next, ⟨σ6, H6, S6, q⟩ =>
        refine gone S6 fun s7 S7 => ?_
        obtain ⟨p1, p2, _⟩ := S7.pin (a, oe4) (by simp)
        exact ⟨_, _, Inv.gain (S7.unsuite ok) p2 n0 nL apart p1 hz4 hd4, q⟩
      | .brk, ⟨σ6, H6, S6, q⟩ => exact gone S6 fun s7 S7 => ⟨_, _, S7.unsuite ok, q⟩
      | .cont, ⟨σ6, H6, S6, q⟩ => exact gone S6 fun s7 S7 => ⟨_, _, S7.unsuite ok, q⟩
      | .ret u, ⟨v6, σ6, H6, S6, r6, q⟩ => exact gone S6 fun s7 S7 => ⟨_, _, _, S7.unsuite ok, r6, q⟩
    | false, _, no =>
      show wpAny _ X.A (handleBy (.ref a) X.env []) _ _ _
      refine wpAny_handleBy_nil ?_
      obtain ⟨k1, k2, k3, oe, vs, T, oT, ts', he, hz, hd, h1, hr⟩ := id fl3
      unfold PySem.passOn
      refine wpAny_bind (wpAny_field he hd h1 ?_)
      rw [if_neg (by simp : ¬ ((Value.ref T == Value.none) = true))]
      have fin : wpAny (model X.prog X.w) X.A (setFlight (.ref a) X.env.frame) (fun _ s4 => wpAny (model X.prog X.w) X.A (throw (.ref a) : Sem Flow) (SP X pins D) X.xe s4) X.xe { s' with heap := h3 } := by
        rw [hf]
        exact HandSPX.setFlight_upZ fl3 fun h4 hh4 up4 => wpAny_throw (tk _ _ ⟨a, B, t0, pins, σ1, H1, cls, d, rfl, J, nb, (up.trans up3).trans up4, .inr (.inr (hs ▸ hh4)), na, eos, bar, no rfl⟩)
      first
        | exact wpAny_bind (wpAny_pure (wpAny_bind fin))
        | exact wpAny_bind fin
end
end Gd
set_option Elab.async false
set_option linter.all false
set_option maxRecDepth 100000
set_option maxHeartbeats 4000000
/-! the end of a law that shows things: the law's call from outside, where no guard stands -/
namespace Gd
open PySem PySem.Spec PyProof.Rows L2 LamX
abbrev scriptO (vs : List Value) : Obj := { cls := .type "list", data := .seq vs.toArray }
abbrev emptyT : Obj := { cls := .none, data := .fields #[] }
/-- what the law finds tracked: empty tables of code objects, and the script, locked -/
def H0 (K : PySem.W.Frag) (Ts : List Addr) (a : Addr) (vs : List Value) (ns : List Int) : Hp := fun b =>
  if b ∈ Ts then some (.tbl #[]) else if b = a ∧ (K.lookup a).isNone = true then some (.frz (scriptO vs) (.lst (ns.map V.int))) else none
section
variable {K : PySem.W.Frag} {Ts : List Addr} {a : Addr} {vs : List Value} {ns : List Int}
theorem h0_tab {b : Addr} (h : b ∈ Ts) : H0 K Ts a vs ns b = some (.tbl #[]) := if_pos h
theorem h0_some {b : Addr} {u : HO} (h : H0 K Ts a vs ns b = some u) : (b ∈ Ts ∧ u = .tbl #[]) ∨ (b = a ∧ K.lookup a = none ∧ u = .frz (scriptO vs) (.lst (ns.map V.int))) := by
  unfold H0 at h
  split at h
  · rename_i hb
    exact .inl ⟨hb, (Option.some.inj h).symm⟩
  · split at h
    · rename_i hb
      exact .inr ⟨hb.1, Option.isNone_iff_eq_none.mp hb.2, (Option.some.inj h).symm⟩
    · cases h
theorem h0_script (na : a ∉ Ts) (hK : K.lookup a = none) : H0 K Ts a vs ns a = some (.frz (scriptO vs) (.lst (ns.map V.int))) := by
  unfold H0
  rw [if_neg na, if_pos ⟨rfl, Option.isNone_iff_eq_none.mpr hK⟩]
end
section
variable {P : Program} {w : World} {K : PySem.W.Frag} {mg mb : Str → Option Value} {k : Nat} {fa a : Addr} {cs : List (Addr × Addr)} {fd : FuncData} {x : Str} {sp : Sp} {s : Shared} {vs : List Value} {ns : List Int}
theorem law_callG (KX : K.In s.heap) (gs : s.heap.Ns mainGlobals mg) (bs : s.heap.Ns builtinsNs mb) (bb : ∀ y : Str, y ≠ "__name__" → mb y = bootBuiltins y) (lim : s.heap.NoLimit) (gen : s.gens = #[])
    (tabs : ∀ p ∈ cs, s.heap.get? p.2 = some emptyT) (notK : ∀ p ∈ cs, K.lookup p.2 = none) (code : ∀ p ∈ cs, PySem.W.CodeHd s.heap p.1 p.2)
    (bmod : ∃ (bm : Addr) (ob : Obj), mg "__builtins__" = some (.ref bm) ∧ bm ≠ builtinsNs ∧ s.heap.get? bm = some ob ∧ ob.cls = .type "module" ∧ ob.dict = some builtinsNs ∧ ob.data = .plain)
    (ha : s.heap.get? a = some (scriptO vs)) (hi : IntsAre vs ns) (hl : ns.length ≤ sizeLine) (hr : Room k callerA)
    (F : ∀ base : Heap, K.In base → base.Ns mainGlobals mg → (∀ p ∈ cs, TabB base mg p.1 p.2) → FnG P w K mg base k fa fd [x] sp) (bind : ∀ (t : Shared) (u : Value), BindsTo t fd ⟨[u], []⟩ [(x, u)])
    (hsp : ∀ H : Hp, (∀ p ∈ cs, H p.2 = some (.tbl #[])) → SqL K H a (ns.map V.int) → sp [.ref a] H (fun v _ => v = .bl true) E0) :
    codeAny (model P w) callerA (.call (.ref fa) ⟨[.ref a], []⟩) (fun r t => r = .ok (.ret (.bool true)) ∧ OldK s.heap t.heap ∧ t.os = s.os ∧ AllBare t.gens) s := by
  have rv : Vals (ns.map V.int) vs := vals_ints hi
  have inT : ∀ b : Addr, b ∈ cs.map (·.2) → ∃ p ∈ cs, p.2 = b := fun b hb => List.mem_map.mp hb
  have atT : ∀ b : Addr, b ∈ cs.map (·.2) → s.heap.get? b = some emptyT := fun b hb => by
    obtain ⟨p, hp, e⟩ := inT b hb
    exact e ▸ tabs p hp
  have na : a ∉ cs.map (·.2) := fun z => by
    have q := (atT a z).symm.trans ha
    cases q
  let H := H0 K (cs.map (·.2)) a vs ns
  -- an object that is neither an empty table nor a list is not tracked
  have plain : ∀ {b : Addr} {o : Obj}, s.heap.get? b = some o → o ≠ emptyT → o ≠ scriptO vs → H b = none := fun {b o} e n1 n2 => by
    cases q : H b with
    | none => rfl
    | some u =>
      rcases h0_some q with ⟨z, _⟩ | ⟨z, _⟩
      · have t := atT b z
        rw [e] at t
        exact (n1 (Option.some.inj t)).elim
      · rw [z, ha] at e
        exact (n2 (Option.some.inj e).symm).elim
  have ofData : ∀ {b : Addr} {o : Obj}, s.heap.get? b = some o → (∀ y, o.data ≠ .fields y ∨ y ≠ #[]) → (∀ y n, o.data ≠ .seq y n) → H b = none := fun {b o} e n1 n2 => plain e
    (fun z => by
      have q := n1 #[]
      rw [z] at q
      rcases q with q | q <;> exact q rfl) fun z => n2 _ _ (congrArg Obj.data z)
  have nsH : ∀ {b : Addr} {m : Str → Option Value}, s.heap.Ns b m → (hidT s.heap H).Ns b m := fun {b m} ⟨o, es, ep, e, d, r⟩ =>
    ⟨o, es, ep, hidT_get e (ofData e (fun y => .inl (by rw [d]; exact fun z => nomatch z)) (by rw [d]; exact fun _ _ z => nomatch z)), d, r⟩
  have hok : HOk P w H s.heap := fun b u e => by
    rcases h0_some e with ⟨z, rfl⟩ | ⟨z, _, rfl⟩
    · exact atT b z
    · rw [z]
      exact ⟨ha, by rw [List.length_map]; exact hl, vs, _, rv, ha⟩
  have inK : K.In (hidT s.heap H) := fun b o e => hidT_get (KX b o e) (by
    cases q : H b with
    | none => rfl
    | some u =>
      rcases h0_some q with ⟨z, _⟩ | ⟨z, n, _⟩
      · obtain ⟨p, hp, ep⟩ := inT b z
        rw [← ep, notK p hp] at e
        cases e
      · rw [z, n] at e
        cases e)
  have md : L2.Mod K mg (hidT s.heap H) := ⟨inK, nsH gs, ⟨mb, nsH bs, bb⟩, let ⟨mc, l1, l2⟩ := lim; ⟨mc, nsH l1, l2⟩⟩
  have glob : ∀ b o, s.heap.get? b = some o → (∀ es ep, o.data ≠ .dict es ep) → b ≠ mainGlobals := fun b o e n z => by
    obtain ⟨o1, es, ep, e1, d1, _⟩ := gs
    rw [z, e1] at e
    cases e
    exact n _ _ d1
  have TB : ∀ p ∈ cs, TabB (hidT s.heap H) mg p.1 p.2 := fun p hp => by
    refine ⟨?_, ?_, fun z => glob _ _ (tabs p hp) (fun _ _ q => nomatch q) z.symm⟩
    · obtain ⟨o, us, file, tf, flags, tg, inF, text, tt, e1, r1, r2, r3, rest⟩ := code p hp
      refine ⟨o, us, file, tf, flags, tg, inF, text, tt, hidT_get e1 (ofData e1 (fun y => ?_) fun y n z => ?_), r1, r2, r3, rest⟩
      · by_cases hy : y = #[]
        · refine .inl fun z => ?_
          rw [r2, hy] at z
          cases z
          simp at r3
        · exact .inr hy
      · rw [r2] at z
        cases z
    · obtain ⟨bm, ob, b1, b2, b3, b4, b5, b6⟩ := bmod
      have np : ∀ es ep, ob.data ≠ .dict es ep := fun es ep z => by
        rw [b6] at z
        cases z
      have nf : ∀ y, ob.data ≠ .fields y := fun y z => by
        rw [b6] at z
        cases z
      exact ⟨bm, ob, b1, b2, glob _ _ b3 np, fun q => by
        rw [q, tabs p hp] at b3
        cases b3
        exact nf _ rfl, hidT_get b3 (ofData b3 (fun y => .inl (nf y)) fun y n z => by
        rw [b6] at z
        cases z), b4, b5, b6⟩
  have e0 : Env0 P w K mg (hidT s.heap H) callerA [] s H := ⟨rfl, md, fun b o e => of_hidT e, Nat.le_of_eq (hidT_size _ _), trivial, fun b hb => absurd hb List.not_mem_nil, hok, .of_eq gen⟩
  have hS : SqL K H a (ns.map V.int) := by
    cases q : K.lookup a with
    | none => exact .inl (.inr ⟨_, h0_script na q⟩)
    | some o =>
      have z := (KX a o q).symm.trans ha
      cases z
      exact .inr ⟨_, vs.toArray, _, q, rfl, rfl, rfl, by rw [List.size_toArray, hi.length]; exact hl, rv⟩
  have hT : ∀ p ∈ cs, H p.2 = some (.tbl #[]) := fun p hp => h0_tab (List.mem_map.mpr ⟨p, hp, rfl⟩)
  refine codeAny_mono ((F _ inK (nsH gs) TB).run callerA [] s H ⟨[.ref a], []⟩ [.ref a] [.ref a] _ rfl hr e0 (bind s (.ref a)) (.cons rfl .nil) (hsp H hT hS)) fun r t h => ?_
  match r, h with
  | .error e, h => exact (show False from h).elim
  | .ok .next, h => exact (show False from h).elim
  | .ok .brk, h => exact (show False from h).elim
  | .ok .cont, h => exact (show False from h).elim
  | .ok (.ret u), ⟨v, H', os, bare, un, hok', r', q⟩ =>
    cases (show v = .bl true from q)
    cases (show u = Value.bool true from r')
    have same : ∀ b o, b ∉ cs.map (·.2) → s.heap.get? b = some o → t.heap.get? b = some o := fun b o nb e => by
      cases q : H b with
      | none => exact un.keep b o e q List.not_mem_nil List.not_mem_nil
      | some u =>
        rcases h0_some q with ⟨z, _⟩ | ⟨_, _, z⟩
        · exact absurd z nb
        · rw [z] at q
          have e1 := (hok b _ q).1
          have e2 := (hok' b _ (un.frzs b _ _ q)).1
          rw [e] at e1
          cases e1
          exact e2
    have more : ∀ p ∈ cs, ∃ m : Array Value, t.heap.get? p.2 = some { cls := .none, data := .fields m } := fun p hp => by
      obtain ⟨m, z⟩ := un.tbls p.2 #[] (hT p hp)
      exact ⟨_, hok' p.2 _ z⟩
    refine ⟨rfl, ⟨fun b o e => ?_, fun b o e => ?_⟩, os, bare⟩
    · by_cases hb : b ∈ cs.map (·.2)
      · obtain ⟨p, hp, ep⟩ := inT b hb
        obtain ⟨m, hm⟩ := more p hp
        rw [← ep, tabs p hp] at e
        cases e
        rw [← ep]
        exact .inr (.inl ⟨((code p hp).tab (tabs p hp)).isCodeTable, rfl, #[], m, rfl, by rw [Array.empty_append]; exact hm⟩)
      · exact .inl (same b o hb e)
    · by_cases hb : b ∈ cs.map (·.2)
      · obtain ⟨p, hp, ep⟩ := inT b hb
        obtain ⟨m, hm⟩ := more p hp
        exact ⟨_, ep ▸ hm⟩
      · exact ⟨o, same b o hb e⟩
end
/-- what a law's promise gives behind the head, at the heap h -/
def AtG (l : PySem.W.OpenLaw) (w : World) (K : PySem.W.Frag) (k n : Nat) (x : Str) (mg : Str → Option Value) (fa : Addr) (h : Heap) : Prop :=
  ∃ (fd : FuncData) (cs : List (Addr × Addr)) (sp : Sp), ((∀ p ∈ cs, h.get? p.2 = some emptyT ∧ K.lookup p.2 = none ∧ PySem.W.CodeHd h p.1 p.2) ∧ ∀ (t : Shared) (u : Value), BindsTo t fd ⟨[u], []⟩ [(x, u)]) ∧
    (∀ (H : Hp) (a : Addr) (ns : List Int), ns.length ≤ n → (∀ p ∈ cs, H p.2 = some (.tbl #[])) → SqL K H a (ns.map V.int) → sp [.ref a] H (fun v _ => v = .bl true) E0) ∧
    ∀ base : Heap, K.In base → base.Ns mainGlobals mg → (∀ p ∈ cs, TabB base mg p.1 p.2) → FnG l.prog w K mg base k fa fd [x] sp
theorem walk_ofG {l : PySem.W.OpenLaw} {n k : Nat} {q : Program} {loose : List Str} {XP : (Str → Option Value) → Heap → Prop} {YP : World → Heap → Prop} {d : DefRec} {x : Str}
    (hn : l.most = some n) (hn2 : n ≤ sizeLine) (hdf : d.params.defaults = []) (hr : Room k callerA)
    (F : ∀ (w : World) (mg : Str → Option Value) (fa : Addr) (h : Heap), YP w h → h.Ns mainGlobals mg → mg d.name = some (.ref fa) → ∃ K : PySem.W.Frag, K.In h ∧ AtG l w K k n x mg fa h) :
    PySem.W.WalkO q loose XP YP l.row.toRowW d [] (fun f vs => PySem.call f vs) := by
  refine Att.attach_callB hn hdf fun w _ _ mg _ fa _ _ _ _ a _ ns G Y _ _ _ hmg hobj hints hlen _ hg => ?_
  obtain ⟨K, KX, fd, cs, sp, ⟨ht, hb⟩, hsp, hF⟩ := F w mg fa _ Y G.T.g hmg
  exact law_callG KX G.T.g G.T.b G.T.builtins G.T.nolimit hg (fun p hp => (ht p hp).1) (fun p hp => (ht p hp).2.1) (fun p hp => (ht p hp).2.2) G.T.bmain hobj hints (Nat.le_trans hlen hn2) hr hF hb fun H hH hS => hsp H a ns hlen hH hS
end Gd
set_option Elab.async false
set_option linter.all false
set_option maxRecDepth 100000
set_option maxHeartbeats 4000000
/-! data under readings -/
namespace Gd
open PySem PySem.Spec PyProof.Rows L2 Evl
def tyD : PyData → String
  | .none => "NoneType"
  | .bool _ => "bool"
  | .int _ => "int"
  | .str _ => "str"
  | .list _ => "list"
  | .tuple _ => "tuple"
  | .dict _ => "dict"
def tysD : List String := ["NoneType", "bool", "int", "str", "list", "tuple", "dict"]
theorem tyD_mem (d : PyData) : tyD d ∈ tysD := by cases d <;> simp [tyD, tysD]
section
variable {K : PySem.W.Frag} {σ : L2.St} {H H' : Hp} {v : V} {d : PyData}
theorem Dq.ty (h : Dq K H v d) : TyX K H v (.type (tyD d)) := by
  cases h with
  | non => exact .base .non
  | bl b => exact .base (.bl b)
  | int i => exact .base (.int i)
  | str x => exact .base (.str x)
  | lst h _ =>
    rcases h with h | ⟨o, h⟩
    · exact .base (.lst h)
    · exact .base (.frz h)
  | tup h _ =>
    rcases h with h | ⟨o, h⟩
    · exact .base (.tup h)
    · exact .fTuple h
  | dct h _ _ =>
    rcases h with h | ⟨o, h⟩
    · exact .base (.dK h)
    · exact .fDict h
mutual
theorem Dq.mono (e : Ex H H') : ∀ (d : PyData) (v : V), Dq K H v d → Dq K H' v d
  | .none, _, h => by
    cases h
    exact .non
  | .bool b, _, h => by
    cases h
    exact .bl b
  | .int i, _, h => by
    cases h
    exact .int i
  | .str x, _, h => by
    cases h
    exact .str x
  | .list ds, _, h => by
    cases h with
    | lst hs r => exact .lst (ex_rd e hs) (Dq.monoAll e ds _ r)
  | .tuple ds, _, h => by
    cases h with
    | tup hs r => exact .tup (ex_rd e hs) (Dq.monoAll e ds _ r)
  | .dict ds, _, h => by
    cases h with
    | dct hs k r => exact .dct (ex_rd e hs) k (Dq.monoAll e (ds.map (·.2)) _ r)
  termination_by d => sizeOf d
  decreasing_by
    all_goals first
      | decreasing_tactic
      | (have q := size_snd ds
         simp only [PyData.dict.sizeOf_spec]
         omega)
theorem Dq.monoAll (e : Ex H H') : ∀ (ds : List PyData) (vs : List V), DqAll K H vs ds → DqAll K H' vs ds
  | [], _, h => by
    cases h
    exact .nil
  | d :: ds, _, h => by
    cases h with
    | cons h r => exact .cons (Dq.mono e d _ h) (Dq.monoAll e ds _ r)
  termination_by ds => sizeOf ds
end
theorem Dq.up (h : Dq K H v d) (e : Ex H H') : Dq K H' v d := Dq.mono e d v h
/-- isinstance(x, T), T built in -/
theorem rc_isi {T : String} (h : Dq K H v d) (hT : tysD.all (fun t => decide (kitB t T = some (decide (t = T)))) = true) : RC (rIsi K) [v, .ty T] H (.bl (decide (tyD d = T))) := fun H1 e1 Q q =>
  ⟨v, .ty T, .type (tyD d), .type T, _, rfl, .ty T, (h.up e1).ty, kit_ty (of_decide_eq_true (List.all_eq_true.mp hT _ (tyD_mem d))), q H1 (Ex.refl H1)⟩
theorem ev_isi {ta : TE} {T : String} (ha : Ev ta σ H v) (h : Dq K H v d) (hT : tysD.all (fun t => decide (kitB t T = some (decide (t = T)))) = true := by decide +kernel) : Ev (tCB (rIsi K) (tCons ta (tCons (tC (.ty T)) tNil))) σ H (.bl (decide (tyD d = T))) :=
  ev_cb (ea_cons ha (ea_cons ev_c ea_nil)) (rc_isi h hT)
end
/-! ### more of what evaluates to what -/
section
variable {K : PySem.W.Frag} {σ : L2.St} {H H' : Hp} {ta tb : TE} {t u : TT} {x y z : V} {b : Bool}
theorem et_or1 (h : EvT t σ H true) : EvT (tOr t u) σ H true := et_is (et_or (b := true) h fun z => nomatch z) rfl
theorem et_or0 (h : EvT t σ H false) (h2 : EvT u σ H b) : EvT (tOr t u) σ H b := et_is (et_or h fun _ => h2) (Bool.false_or b)
theorem et_and0 (h : EvT t σ H false) : EvT (tAnd t u) σ H false := et_is (et_and (b := true) h fun z => nomatch z) rfl
theorem et_and1 (h : EvT t σ H true) (h2 : EvT u σ H b) : EvT (tAnd t u) σ H b := et_is (et_and h fun _ => h2) (Bool.true_and b)
theorem et_no (h : EvT t σ H b) : EvT (tNot t) σ H (!b) := et_not h
def rLenStr : List V → Hp → VK → Prop := fun xs H Q => ∃ z : Str, xs = [.str z] ∧ z.length ≤ sizeLine ∧ Q (.int z.length) H
theorem ev_lenS {w : Str} (h : Ev ta σ H (.str w)) (hz : w.length ≤ 100000) : Ev (tCB (fun xs H Q => ∃ z : Str, xs = [.str z] ∧ z.length ≤ sizeLine ∧ Q (.int z.length) H) (tCons ta tNil)) σ H (.int (w.length : Int)) :=
  ev_cb (ea_cons h ea_nil) fun H1 e1 Q q => ⟨w, rfl, sz_of hz, q H1 (Ex.refl H1)⟩
theorem ev_gt {i j : Int} (h1 : Ev ta σ H (.int i)) (h2 : Ev tb σ H (.int j)) : Ev (tOp (rI0 fun i j => .bl (decide (j < i))) ta tb) σ H (.bl (decide (j < i))) := ev_op h1 h2 rv_I0
theorem ev_inT {p : Addr} {xs : List V} (h1 : Ev ta σ H x) (h2 : Ev tb σ H (.ref p)) (h : SqT K H p xs) (hx : flatV x = true) (ha : xs.all flatV = true) : Ev (tOp (rIn K false) ta tb) σ H (.bl (inV x xs)) := ev_op h1 h2 (rv_isT h hx ha)
theorem ev_m0 {g : Str → V} {w : Str} (h : Ev ta σ H (.str w)) : Ev (tBM0 K "str" (fun x xs H Q => ∃ a, x = .str a ∧ xs = [] ∧ True ∧ Q (g a) H) ta) σ H (g w) := fun H1 e Q q =>
  h H1 e _ fun H2 e2 => ⟨rfl, w, rfl, rfl, True.intro, q H2 e2⟩
end
/-! ### names -/
def noNames : List Str := ["and", "or", "not", "has", "yes", "flag"]
def low (c : Nat) : Bool := decide (97 ≤ c) && decide (c ≤ 122)
def isNameS (x : Str) : Bool := decide (1 ≤ x.length) && decide (x.length ≤ 8) && !noNames.contains x && x.cps.toList.all low
def isNameD : PyData → Bool
  | .str x => isNameS x
  | _ => false
theorem low_of : ∀ c : Fin 128, Unicode.isAlpha c.val = (low c.val || (decide (65 ≤ c.val) && decide (c.val ≤ 90))) ∧ Unicode.isLower c.val = low c.val ∧ (Unicode.isUpper c.val || Unicode.isTitle c.val) = (decide (65 ≤ c.val) && decide (c.val ≤ 90)) := by decide +kernel
theorem name_texts (x : Str) : (Txt.isascii x && (Txt.isalpha x && Txt.islower x)) = (decide (1 ≤ x.length) && x.cps.toList.all low) := by
  unfold Txt.isascii Txt.isalpha Txt.islower
  have hl : x.length = x.cps.toList.length := by simp [Str.length]
  rw [← Array.all_toList, ← Array.all_toList, ← Array.any_toList, ← Array.any_toList, hl]
  generalize x.cps.toList = l
  have at_ : ∀ c : Nat, c < 128 → Unicode.isAlpha c = (low c || (decide (65 ≤ c) && decide (c ≤ 90))) ∧ Unicode.isLower c = low c ∧ (Unicode.isUpper c || Unicode.isTitle c) = (decide (65 ≤ c) && decide (c ≤ 90)) := fun c h => low_of ⟨c, h⟩
  have lo : ∀ c : Nat, low c = true ↔ 97 ≤ c ∧ c ≤ 122 := fun c => by simp [low]
  rw [Bool.eq_iff_iff]
  simp only [Bool.and_eq_true, List.all_eq_true, List.any_eq_true, decide_eq_true_eq, Bool.not_eq_true', List.any_eq_false]
  constructor
  · rintro ⟨h1, ⟨h2, h3⟩, _, h5⟩
    refine ⟨h2, fun c hc => ?_⟩
    obtain ⟨a1, _, a3⟩ := at_ c (h1 c hc)
    have h6 := h3 c hc
    have h7 := h5 c hc
    rw [a3] at h7
    rw [a1] at h6
    simpa [h7] using h6
  · rintro ⟨h1, h2⟩
    have h128 : ∀ c ∈ l, c < 128 := fun c hc => by
      have := (lo c).mp (h2 c hc)
      omega
    refine ⟨h128, ⟨h1, fun c hc => ?_⟩, ?_, fun c hc => ?_⟩
    · rw [(at_ c (h128 c hc)).1, h2 c hc] <;> rfl
    · cases l with
      | nil => exact absurd h1 (by simp)
      | cons c r => exact ⟨c, List.mem_cons_self, by rw [(at_ c (h128 c List.mem_cons_self)).2.1]; exact h2 c List.mem_cons_self⟩
    · have := (lo c).mp (h2 c hc)
      rw [(at_ c (h128 c hc)).2.2]
      simp
      omega
end Gd
set_option Elab.async false
set_option linter.all false
set_option maxRecDepth 100000
set_option maxHeartbeats 0
namespace K01
open PySem PySem.Spec PyProof.Rows L2
def top (i : Nat) : Stmt := PySem.Challenge.pw_rulesmerged_k01_names_and_schemas.main.body.getD i (.Pass ⟨0, 0, 0, 0⟩)
abbrev sIsName : Stmt := top 12
abbrev sIsColumn : Stmt := top 13
abbrev sIsTable : Stmt := top 14
abbrev sAreTables : Stmt := top 15
abbrev sChanges : Stmt := top 16
abbrev sSchema : Stmt := top 17
abbrev sPen : Stmt := top 19
abbrev sNext : Stmt := top 20
abbrev sDraw : Stmt := top 21
abbrev sSome : Stmt := top 22
abbrev sName : Stmt := top 23
abbrev sNames : Stmt := top 24
abbrev sPlan : Stmt := top 25
abbrev sLIsName : Stmt := top 26
abbrev sLIsTable : Stmt := top 27
abbrev sLIsPlan : Stmt := top 28
abbrev sOdd : Stmt := top 29
abbrev sBent : Stmt := top 30
abbrev sWord : Stmt := top 31
abbrev sShows : Stmt := top 32
abbrev sRefuses : Stmt := top 33
abbrev sEquals : Stmt := top 34
abbrev sLaw : Stmt := top 35
abbrev FnP (K : PySem.W.Frag) (x : Str) (st : Stmt) (f : Addr) (fd : FuncData) : Prop := FunD K x x (defArgs st) (defBody st) (defScope st) [] [] f fd
end K01
set_option Elab.async false
set_option linter.all false
set_option maxRecDepth 100000
set_option maxHeartbeats 4000000
namespace K01
open PySem PySem.Spec PyProof.Rows L2 Gd Evl
/-! texts and lists of it are short -/
mutual
def small : PyData → Bool
  | .str x => decide (x.length ≤ 1000)
  | .list ds => decide (ds.length ≤ 1000) && smallAll ds
  | .tuple ds => decide (ds.length ≤ 1000) && smallAll ds
  | .dict ds => decide (ds.length ≤ 1000) && smallKv ds
  | _ => true
def smallAll : List PyData → Bool
  | [] => true
  | d :: r => small d && smallAll r
def smallKv : List (PyData × PyData) → Bool
  | [] => true
  | (k, v) :: r => small k && small v && smallKv r
end
/-- a def that tells f of its one argument, any small data -/
def spB (K : PySem.W.Frag) (f : PyData → Bool) : Sp := fun vs H Q _ => ∃ v d, vs = [v] ∧ Dq K H v d ∧ small d = true ∧ ∀ H', Ex H H' → Q (.bl (f d)) H'
structure NmT (K : PySem.W.Frag) (mg : Str → Option Value) : Prop where
  isi : mg "isinstance" = none
  len : mg "len" = none
  str : mg "str" = none
  all : mg "all" = none
  most : ∃ t, mg "MOST_LETTERS" = some (.int 8 t)
  no : ∃ a, mg "NO_NAMES" = some (.ref a) ∧ SqT K (fun _ => none) a (noNames.map V.str)
theorem sqt_any {K : PySem.W.Frag} {H : Hp} {a : Addr} {xs : List V} (h : SqT K (fun _ => none) a xs) : SqT K H a xs := by
  rcases h with (h | ⟨o, h⟩) | h
  · cases h
  · cases h
  · exact .inr h
section
variable {P : Program} {w : World} {K : PySem.W.Frag} {mg : Str → Option Value} {base : Heap} {f : Addr} {fd : FuncData}
theorem scIsName : FnScope ["thing"] ["thing"] (defScope sIsName) := ⟨rfl, rfl, rfl, by decide +kernel, rfl, by decide +kernel, by decide +kernel⟩
theorem inV_strs (x : Str) : ∀ ys : List Str, inV (.str x) (ys.map V.str) = ys.contains x
  | [] => rfl
  | y :: r => by
    have ih := inV_strs x r
    unfold inV at ih ⊢
    rw [List.map_cons, List.any_cons, ih, List.contains_cons]
    show (y == x || _) = (x == y || _)
    rw [Bool.beq_comm]
theorem inV_names (x : Str) : inV (.str x) (noNames.map V.str) = noNames.contains x := inV_strs x _
theorem ok_isname (T : NmT K mg) (F : FnP K "is_name" sIsName f fd) : FnOk P w K mg base CX0 1 f fd ["thing"] (spB K isNameD) := by
  obtain ⟨tm, gm⟩ := T.most
  obtain ⟨aN, gN, hN⟩ := T.no
  refine F.ok scIsName (fun vs H Q E h => ?_) (fun cdv A outer s H vs Q E hr h => ⟨_, PSs.nox (pss_cons (ps_if (PW.pt (pw_or (pt_not (pt_val (pe_callB call_isi (by rfl) T.isi (by decide +kernel) (pa_cons (pv 0) (pa_cons (pe_bltn (v := .ty "str") (by rfl) T.str (by decide +kernel) rfl) pa_nil)))))
      (pw_or (pt_cmpR op_gt (pe_callB call_len_str (by rfl) T.len PySem.boot_len (pa_cons (pv 0) pa_nil)) (pe_glob (v := .int 8) rfl gm ⟨_, rfl⟩) (nomark _))
      (pw_or1 (pt_cmpR op_in_seq (pv 0) (pe_glob (v := .ref aN) rfl gN rfl) (by rfl)))))) (pss_one (ps_ret pe_bl)) pss_nil)
    (pss_one (ps_ret (pe_and (pe_bm0 PySem.F.plainAttrs_str PySem.F.slot_str_isascii PySem.F.type_str_isascii mt_isascii (pv 0)) (pe_and (pe_bm0 PySem.F.plainAttrs_str PySem.F.slot_str_isalpha PySem.F.type_str_isalpha mt_isalpha (pv 0)) (pe_one (pe_bm0 PySem.F.plainAttrs_str PySem.F.slot_str_islower PySem.F.type_str_islower mt_islower (pv 0)))))))), ?_⟩)
  · obtain ⟨v, d, rfl, _⟩ := h
    rfl
  · obtain ⟨v, d, rfl, hd, hs, k⟩ := h
    have ei : Ev (tCB (rIsi K) (tCons (tVar 0) (tCons (tC (.ty "str")) tNil))) (L2.start ["thing"] [v]) H (.bl (decide (tyD d = "str"))) := ev_isi (ev_var rfl) hd
    cases d with
    | str x =>
      cases hd
      have hl : x.length ≤ 1000 := by simpa [small] using hs
      refine q_when (b := decide (8 < (x.length : Int)) || noNames.contains x) (et_or0 (et_no (et_B ei)) (et_or (et_test (ev_gt (ev_lenS (ev_var rfl) (by omega)) ev_c)) fun _ => et_test (ev_is (ev_inT (ev_var rfl) ev_c (sqt_any hN) rfl (by decide +kernel)) (congrArg V.bl (inV_names x))))) (fun hb H1 e1 => ?_) (fun hb H1 e1 => ?_)
      · refine s_ret ev_c fun H2 e2 => ?_
        have z := k H2 (e1.trans e2)
        have q : isNameD (.str x) = false := by
          show isNameS x = false
          unfold isNameS
          rcases Bool.or_eq_true_iff.mp hb with q | q
          · have q' : ¬ x.length ≤ 8 := by
              have := of_decide_eq_true q
              omega
            simp [q']
          · rw [q]
            cases (decide (1 ≤ x.length)) <;> cases (decide (x.length ≤ 8)) <;> rfl
        rw [q] at z
        exact z
      · refine s_ret (ev_andV (ev_m0 (g := fun a => .bl (Txt.isascii a)) (ev_var (i := 0) (v := .str x) rfl)) fun _ => ev_andV (ev_m0 (g := fun a => .bl (Txt.isalpha a)) (ev_var (i := 0) (v := .str x) rfl)) fun _ => ev_m0 (g := fun a => .bl (Txt.islower a)) (ev_var (i := 0) (v := .str x) rfl)) fun H2 e2 => ?_
        have z := k H2 (e1.trans e2)
        have q : isNameD (.str x) = (Txt.isascii x && (Txt.isalpha x && Txt.islower x)) := by
          rw [name_texts]
          show isNameS x = _
          unfold isNameS
          obtain ⟨q1, q2⟩ := Bool.or_eq_false_iff.mp hb
          have q3 : x.length ≤ 8 := by
            have := of_decide_eq_false q1
            omega
          rw [q2, decide_eq_true q3]
          simp
        rw [q] at z
        exact z
    | _ =>
      refine q_when (b := true) (et_or1 (et_no (et_B ei))) (fun hb H1 e1 => ?_) (fun hb => nomatch hb)
      exact s_ret ev_c fun H2 e2 => k H2 (e1.trans e2)
end
end K01
set_option Elab.async false
set_option linter.all false
set_option maxRecDepth 100000
set_option maxHeartbeats 4000000
namespace Gd
open PySem PySem.Spec PyProof.Rows L2 Evl
section
variable {X : Cx}
/-- xs.count(y), flat things -/
def rCntF (K : PySem.W.Frag) : V → List V → Hp → VK → Prop := fun x vs H Q => ∃ (p : Addr) (ys : List V) (y : V), x = .ref p ∧ vs = [y] ∧ SqL K H p ys ∧ flatV y = true ∧ ys.all flatV = true ∧ Q (.int ((ys.countP fun z => eqV z y : Nat) : Int)) H
theorem count_flat {y : V} {u : Value} (ru : RelV y u) : ∀ {ys : List V} {us : List Value}, Vals ys us → ys.all flatV = true → us.countP (eqU y) = ys.countP fun z => eqV z y
  | _, _, .nil, _ => rfl
  | _, _, .cons r t, h => by
    rw [List.all_cons, Bool.and_eq_true] at h
    rw [List.countP_cons, List.countP_cons, count_flat ru t h.2, eqU_of r h.1]
theorem mt_fcount : MtR X "list.count" (rCntF X.K) := by
  intro pins s σ H x vs v us Q I rx rxs h
  obtain ⟨p, ys, y, e1, e2, hs, fy, fys, q⟩ := h
  subst e1 e2
  cases rx
  obtain ⟨u, e3, ru⟩ := rxs.one
  subst e3
  obtain ⟨its, rv, ⟨⟨c1, c2, c3, c4⟩, n, ho, hc, hn, hd⟩, hz⟩ := I.list hs
  dsimp only at hc hd
  subst hc hd
  refine call_meets PySem.F.slot_list_count ⟨_, ho, rfl⟩ PySem.F.entry_list_count (PySem.F.args_list_count_2 _ _) (SeqAt.list_countAt p its.toArray n c2 c4 u (eqU y)) ⟨ho, fun z hm => mem_eqAt ru fy rv fys z (by simpa using hm), ?_⟩
  refine ⟨.int _, H, I.tok _, ⟨s.toks, ?_⟩, q⟩
  show Value.int ((its.toArray.toList.countP (eqU y) : Nat) : Int) s.toks = _
  rw [show its.toArray.toList = its from rfl, count_flat ru rv fys]
/-- isinstance(e, C), e an exception that was caught and kept -/
def rIsK (K : PySem.W.Frag) : List V → Hp → VK → Prop := fun xs H Q => ∃ (a D C : Addr) (b : Bool), xs = [.ref a, .ref C] ∧ H a = some (Exn (.ref D) none a) ∧ ExcC K D ∧ PySem.W.kitOne K (.ref D) (.ref C) = some b ∧ Q (.bl b) H
theorem call_isK : CallR X (.builtin "isinstance") (rIsK X.K) := by
  intro pins s σ H xs us Q I r h
  obtain ⟨a, D, C, b, e0, hx, k, e, q⟩ := h
  subst e0
  obtain ⟨u1, u2, e1, r1, r2⟩ := vals2 r
  subst e1
  cases (show u1 = Value.ref a from r1)
  cases (show u2 = Value.ref C from r2)
  obtain ⟨⟨oe, vs, ho, hz, hd⟩, _, _⟩ := I.hok a _ hx
  have J : PySem.W.InstAt s.heap a oe D none := by
    refine ⟨ho, hz.1, by unfold PySem.W.notCls; rw [hd] <;> rfl, ?_⟩
    rw [hz.2]
    trivial
  have hc : (PySem.W.clsIn X.K D).isSome = true := by
    have z := k.hd
    unfold PySem.W.hasDictIn at z
    cases y : PySem.W.clsIn X.K D with
    | none =>
      rw [y] at z
      cases z
    | some _ => rfl
  exact PySem.W.kia_one (PySem.W.kitx_exc (od := none) hc k.hg k.hk k.hs k.ha k.hn k.ht k.hm) I.kIn J e (fun z => nomatch z) fun tk => ⟨.bl b, H, I.kept (t' := tk) fun _ _ z => z, rfl, q⟩
end
end Gd
namespace K01
open PySem PySem.Spec PyProof.Rows L2 Gd Evl LamX
def errs : List Str := ["InvalidSchema", "UnknownTable", "UnknownColumn"]
def wds : List Str := ["schema", "table", "column"]
structure WdT (K : PySem.W.Frag) (mg : Str → Option Value) : Prop where
  gA : mg "ApartError" = some (.ref (He.ga K "ApartError"))
  gl : ∀ x ∈ errs, mg x = some (.ref (He.ga K x))
  ex : ∀ x ∈ errs, PySem.W.exmOne K (.ref (He.ga K x)) (.ref (He.ga K "ApartError")) = some true
  kit : ∀ x ∈ errs, ∀ y ∈ errs, PySem.W.kitOne K (.ref (He.ga K x)) (.ref (He.ga K y)) = some (decide (x = y))
  xc : ∀ x ∈ errs, ExcC K (He.ga K x)
  isi : mg "isinstance" = none
/-- act() tells what it hands back by the empty word, what it raises by the word of its class -/
def TTw (K : PySem.W.Frag) : (XK → Hp → VK → Prop) → Hp → VK → Prop := fun tl H Q => ∀ (E : XK) (R : VK),
  (∀ (H' : Hp) (i : Nat) (x y : Str), errs[i]? = some x → wds[i]? = some y → (∀ H'', Ex H' H'' → Q (.str y) H'') → E (.ref (He.ga K x)) none H') → (∀ (v : V) (H' : Hp), (∀ H'', Ex H' H'' → Q (.str "") H'') → R v H') → tl E H R
/-- what is raised is one of these, and its word follows -/
def Raised (K : PySem.W.Frag) (Q : VK) : XK := fun cls d H' => d = none ∧ ∃ (i : Nat) (x y : Str), errs[i]? = some x ∧ wds[i]? = some y ∧ cls = .ref (He.ga K x) ∧ ∀ H'', Ex H' H'' → Q (.str y) H''
theorem word_gives {X : Cx} {q : Str} {g : Addr} {cdg : Value} (T : WdT X.K X.mg) : GivesTo X ["act", "caught", "e", "kinds"] "_law_word" (defScope sWord) g cdg (defBody sWord) "act" q (TTw X.K) := by
  intro f c' s H Q tl act hc h
  have nd : (["act", "caught", "e", "kinds"] : List Str).Nodup := by decide +kernel
  refine ⟨_, pss_cons (ps_set (i := 1) nd rfl (Or.inl rfl) pe_non) (pss_cons (ps_try_kept (X := (cxOf C8.CX0 X.prog X.w X.K X.mg X.base ["act", "caught", "e", "kinds"] "_law_word" (defScope sWord) g cdg X.A X.stack s H C8.E0).nox) (i := 2) (c := .ref (He.ga X.K "ApartError"))
      (tb := fun W D σ H => ∃ Ech : XK, (∀ cls d σ' H', Ech cls d H' → W cls d σ' H') ∧ σ[0]? = some (some (.ref f)) ∧ H c' = some (CodeO c' q) ∧ tl Ech H fun _ H1 => D.nx σ H1)
      rfl rfl nd rfl rfl ⟨rfl, by decide +kernel, .inl T.gA⟩ L2.takes0 rfl (fun W pn xe tk _ => ?_) (fun a oe cls d pn _ _ => pss_one (ps_set (i := 1) nd rfl (Or.inl rfl) (pv 2))))
    (pss_cons (ps_if (pt_cmpR op_isN (pv 1) pe_non (nomark _)) (pss_one (ps_ret pe_str)) pss_nil)
    (pss_cons (ps_set (i := 3) nd rfl (Or.inl rfl) (pe_lst (pa_cons (pe_callB call_isK (by rfl) T.isi (by decide +kernel) (pa_cons (pv 1) (pa_cons (pe_glob (v := .ref (He.ga X.K "InvalidSchema")) rfl (T.gl _ (by decide +kernel)) rfl) pa_nil)))
      (pa_cons (pe_callB call_isK (by rfl) T.isi (by decide +kernel) (pa_cons (pv 1) (pa_cons (pe_glob (v := .ref (He.ga X.K "UnknownTable")) rfl (T.gl _ (by decide +kernel)) rfl) pa_nil)))
      (pa_cons (pe_callB call_isK (by rfl) T.isi (by decide +kernel) (pa_cons (pv 1) (pa_cons (pe_glob (v := .ref (He.ga X.K "UnknownColumn")) rfl (T.gl _ (by decide +kernel)) rfl) pa_nil))) pa_nil)))))
    (pss_one (ps_ret (pe_ifExp (pt_cmpR op_eq (pe_bm PySem.F.plainAttrs_list PySem.F.slot_list_count PySem.F.type_list_count mt_fcount (pv 3) (pa_cons pe_bl pa_nil)) pe_int (nomark _))
      (pe_ix ix_list (pe_lst (pa_cons pe_str (pa_cons pe_str (pa_cons pe_str pa_nil)))) (pe_bm PySem.F.plainAttrs_list PySem.F.slot_list_index PySem.F.type_list_index mt_index (pv 3) (pa_cons pe_bl pa_nil)) (fun _ _ => rfl)) pe_str)))))), ?_⟩
  · refine ⟨fun pins s' σ H' D I h' => ?_⟩
    obtain ⟨Ech, hW, h1, h2, h3⟩ := h'
    exact (pss_one (ps_expr (act W pn xe Ech _ _ tk hW))).run pins s' σ H' D I ⟨h1, h2, h3⟩
  · refine ⟨Raised X.K Q, ?_, rfl, hc, h _ _ (fun H' i x y e1 e2 k => ⟨rfl, i, x, y, e1, e2, rfl, k⟩) fun v H' k => ?_⟩
    · rintro cls d σ' H' ⟨e0, i, x, y, e1, e2, e3, k⟩ hlen
      subst e0 e3
      have hx : x ∈ errs := List.mem_of_getElem? e1
      refine ⟨true, T.ex x hx, (fun z => nomatch z), fun _ a ha => ?_⟩
      obtain ⟨s0, s1, s2, s3, rfl⟩ : ∃ s0 s1 s2 s3, σ' = [s0, s1, s2, s3] := by
        match σ', hlen with
        | [a, b, c, d], _ => exact ⟨a, b, c, d, rfl⟩
      refine ⟨_, rfl, _, rfl, rfl, _, rfl, iteF ?_⟩
      have mem : ∀ y : Str, y = "InvalidSchema" ∨ y = "UnknownTable" ∨ y = "UnknownColumn" → y ∈ errs := fun y h => by rcases h with rfl | rfl | rfl <;> decide +kernel
      refine ⟨_, rfl, a, _, _, _, rfl, upd_same, T.xc x hx, T.kit x hx _ (mem _ (.inl rfl)), _, rfl, a, _, _, _, rfl, upd_same, T.xc x hx, T.kit x hx _ (mem _ (.inr (.inl rfl))), _, rfl, a, _, _, _, rfl, upd_same, T.xc x hx, T.kit x hx _ (mem _ (.inr (.inr rfl))), by show 3 ≤ sizeLine; decide, fun p hp => ?_⟩
      obtain ⟨j, hj, hz, hc1⟩ : ∃ j : Nat, ([V.bl (decide (x = ("InvalidSchema" : Str))), V.bl (decide (x = ("UnknownTable" : Str))), V.bl (decide (x = ("UnknownColumn" : Str)))] : List V)[j]? = some (.bl true) ∧ wds[j]? = some y ∧
          ([V.bl (decide (x = ("InvalidSchema" : Str))), V.bl (decide (x = ("UnknownTable" : Str))), V.bl (decide (x = ("UnknownColumn" : Str)))] : List V) = (List.range 3).map (fun m => V.bl (decide (m = j))) := by
        match i, e1, e2 with
        | 0, e1, e2 =>
          cases e1
          exact ⟨0, by decide +kernel, e2, by decide +kernel⟩
        | 1, e1, e2 =>
          cases e1
          exact ⟨1, by decide +kernel, e2, by decide +kernel⟩
        | 2, e1, e2 =>
          cases e1
          exact ⟨2, by decide +kernel, e2, by decide +kernel⟩
      have hj3 : j < 3 := (List.getElem?_eq_some_iff.mp hj).1
      rw [hc1]
      generalize hH : L2.upd H' a (Exn (.ref (He.ga X.K x)) none a) = H1 at hp ⊢
      have e01 : Ex H' H1 := hH ▸ Ex.new ha
      have e12 : Ex H1 (L2.upd H1 p (.lst ((List.range 3).map fun m => V.bl (decide (m = j))))) := Ex.new hp
      have at3 : SqL X.K (L2.upd H1 p (.lst ((List.range 3).map fun m => V.bl (decide (m = j))))) p ((List.range 3).map fun m => V.bl (decide (m = j))) := SqL.of upd_same
      have flat : ((List.range 3).map fun m => V.bl (decide (m = j))).all flatV = true := by simp [flatV, List.range]
      have cnt : ((List.range 3).map fun m => V.bl (decide (m = j))).countP (fun z => eqV z (.bl true)) = 1 := by
        rcases (by omega : j = 0 ∨ j = 1 ∨ j = 2) with rfl | rfl | rfl <;> decide +kernel
      have first : ∀ (m : Nat) (z : V), m < j → ((List.range 3).map fun m => V.bl (decide (m = j)))[m]? = some z → eqV z (.bl true) = false := by
        intro m z hm e
        rw [List.getElem?_map, List.getElem?_range (by omega)] at e
        cases e
        show (decide (m = j) == true) = false
        rw [decide_eq_false (by omega)] <;> rfl
      refine ⟨_, rfl, .inl ⟨rfl, _, at3⟩, p, _, .bl true, rfl, rfl, at3, rfl, flat, rfl, _, rfl, ?_⟩
      rw [cnt]
      refine iteT ⟨by show 3 ≤ sizeLine; decide, fun l hl => ?_⟩
      have npl : p ≠ l := ne_of_none upd_same hl
      have at3' : SqL X.K (L2.upd (L2.upd H1 p (.lst ((List.range 3).map fun m => V.bl (decide (m = j))))) l (.lst [.str "schema", .str "table", .str "column"])) p ((List.range 3).map fun m => V.bl (decide (m = j))) := ex_l (Ex.new hl) at3
      refine ⟨_, rfl, .inl ⟨rfl, _, at3'⟩, p, _, .bl true, j, .bl true, rfl, rfl, at3', rfl, flat, hc1 ▸ hj, rfl, first, l, _, (j : Int), .str y, rfl, rfl, SqL.of upd_same, ?_, k _ (e01.trans (e12.trans (Ex.new hl)))⟩
      refine at_of (j := j) rfl ?_
      rw [show ([V.str "schema", V.str "table", V.str "column"] : List V) = wds.map V.str from rfl, List.getElem?_map, hz] <;> rfl
    · refine ⟨_, rfl, rfl, _, rfl, iteT ?_⟩
      exact k H' (Ex.refl H')
end K01
set_option Elab.async false
set_option linter.all false
set_option maxRecDepth 100000
set_option maxHeartbeats 4000000
/-! set(xs), xs a list of texts, of any length below the bound -/
namespace Gd
open PySem PySem.Spec PyProof.Rows L2
/-- the different ones of the first i, in the order in which they are met -/
def met (xs : List Str) : Nat → List Str
  | 0 => []
  | i + 1 => let m := met xs i
    let x := xs.getD i Str.empty
    if m.contains x then m else m ++ [x]
theorem met_len (xs : List Str) : ∀ i, (met xs i).length ≤ i
  | 0 => Nat.le_refl _
  | i + 1 => by
    have ih := met_len xs i
    unfold met
    dsimp only
    split
    · omega
    · rw [List.length_append, List.length_singleton]
      omega
theorem strs_ix {us : List Value} {xs : List Str} (r : PyProof.Rows.StrsAre us xs) : ∀ (i : Nat) (v : Value), us[i]? = some v → ∃ t, v = .str (xs.getD i Str.empty) t := by
  induction r with
  | nil => exact fun i v e => by simp at e
  | cons x t _ ih =>
    intro i v e
    cases i with
    | zero => exact ⟨t, (Option.some.inj e).symm⟩
    | succ i => exact ih i v e
abbrev setBare (led : Bool) : Obj := { cls := .type "set", dict := none, data := .set #[] 0 (.fresh 0 0 led) }
section
variable {P : Program} {w : World} {A : Around} {I S : Addr} {fp wr : List Addr} {G : Array GenState → Array GenState → Prop} {n : Nat} {Pv : Nat → Value → Prop} {St : Nat → Shared → Prop} {R : Result → Shared → Prop}
/-- the set at S is that of the first i -/
def SetAt (P : Program) (w : World) (h : Heap) (S : Addr) (xs : List Str) (i : Nat) : Prop := h.SetOf (PySem.strKind P w) S (fun k => (met xs i).contains k) (met xs i).length
theorem SetAt.moved {h h' : Heap} {xs : List Str} {i : Nat} (s : SetAt P w h S xs i) (k : ∀ o, h.get? S = some o → h'.get? S = some o) : SetAt P w h' S xs i := by
  obtain ⟨o, es, ep, t, ho, r⟩ := s
  exact ⟨o, es, ep, t, k o ho, r⟩
theorem fill (W : WalksS P w A.in1 I fp wr G n Pv St) (hS : S ∉ fp) {xs : List Str} (val : ∀ i v, Pv i v → ∃ t, v = .str (xs.getD i Str.empty) t) (hb : n + 1 < scanBound) :
    ∀ (m i : Nat) (s : Shared), i + m = n → St i s → SetAt P w s.heap S xs i → (∀ s', Moved (S :: wr) G s s' → SetAt P w s'.heap S xs n → R (.ok (.ret .none)) s') →
      codeAny (model P w) A (.builtin "set.update.loop" ⟨[.ref S, .ref I], []⟩) R s
  | 0, i, s, e, st, at_, k => by
    obtain rfl : i = n := e
    refine codeAny_builtin PyProof.Rows.F.entry_set_update_loop ?_
    rw [Around.under_plainId PyProof.Rows.F.plain_set_update_loop _]
    refine wpAny_bind (m := pyNext (.ref I)) (W.done s _ _ st fun s' mv => ?_)
    exact wpAny_pure (k s' (mv.mono fun b hb => List.mem_cons_of_mem _ hb) (at_.moved fun o e => mv.heap S o (fun z => hS (W.sub _ z)) e))
  | m + 1, i, s, e, st, at_, k => by
    refine codeAny_builtin PyProof.Rows.F.entry_set_update_loop ?_
    rw [Around.under_plainId PyProof.Rows.F.plain_set_update_loop _]
    refine wpAny_bind (m := pyNext (.ref I)) (W.item i s _ _ (by omega) st fun v s' hv st' mv => ?_)
    obtain ⟨t, ev⟩ := val i v hv
    subst ev
    have at1 : SetAt P w s'.heap S xs i := at_.moved fun o e => mv.heap S o (fun z => hS (W.sub _ z)) e
    refine wpAny_bind (m := holding [Value.str (xs.getD i Str.empty) t] (setAdd S (.str (xs.getD i Str.empty) t))) (wpAny_holding ?_)
    unfold setAdd
    refine wpAny_holding (wpAny_bind ((PySem.strKind P w).pyHash (k := xs.getD i Str.empty) (strKind_is _ _ _ _) ?_))
    have room : (met xs i).length + 1 < scanBound := Nat.lt_of_le_of_lt (Nat.add_le_add_right (met_len xs i) 1) (by omega)
    refine wpAny_setAddHashed_of (knd := PySem.strKind P w) (s := { s' with toks := s'.toks + 1 }) (strKind_is _ _ _ _) rfl at1 room fun h' sb at2 => ?_
    have at3 : SetAt P w h' S xs (i + 1) := by
      refine PyProof.Rows.SetOf_congr at2 (fun y => ?_) ?_
      · show ((met xs i).contains y || decide (y = xs.getD i Str.empty)) = (met xs (i + 1)).contains y
        rw [show met xs (i + 1) = if (met xs i).contains (xs.getD i Str.empty) then met xs i else met xs i ++ [xs.getD i Str.empty] from rfl]
        by_cases c : (met xs i).contains (xs.getD i Str.empty) = true
        · rw [if_pos c]
          by_cases q : y = xs.getD i Str.empty
          · rw [q, c] <;> rfl
          · rw [decide_eq_false q, Bool.or_false]
        · rw [if_neg c, List.contains_append]
          simp [List.contains_cons, Bool.beq_eq_decide_eq]
      · rw [show met xs (i + 1) = if (met xs i).contains (xs.getD i Str.empty) then met xs i else met xs i ++ [xs.getD i Str.empty] from rfl]
        split <;> simp
    refine wpAny_pure ⟨plainId_quiet PyProof.Rows.F.plain_set_update_loop _, fill W hS val hb m (i + 1) _ (by omega) (W.frame _ s' _ _ st' (Nat.le_succ _) fun b hbf o eo => ?_) at3 fun s2 mv2 at4 => ?_⟩
    · exact (sb.2 b fun z => hS (z ▸ hbf)).trans eo
    · refine k s2 (Moved.trans W.gtrans ((mv.mono fun b hb => List.mem_cons_of_mem _ hb).then_heap (Nat.le_succ _) fun b o hn eo => ?_) mv2) at4
      exact (sb.2 b fun z => hn (z ▸ List.mem_cons_self)).trans eo
end
section
variable {P : Program} {w : World} {A : Around} {E : Value → Shared → Prop} {s : Shared}
set_option maxHeartbeats 8000000 in
theorem call_setL {l : Addr} {items : Array Value} {xs : List Str} {Q : Value → Shared → Prop} (hh : A.handled = none) (hl : s.heap.IsList l items) (hi : PyProof.Rows.StrsAre items.toList xs) (hb : items.size + 1 < scanBound)
    (h : ∀ (h' : Heap) (tk : Nat), SetAt P w h' s.heap.objs.size xs items.size → (∀ b o, b < s.heap.objs.size → s.heap.get? b = some o → h'.get? b = some o) → Q (.ref s.heap.objs.size) { s with heap := h', toks := tk }) :
    wpAny (model P w) A (call (.type "set") [.ref l]) Q E s := by
  obtain ⟨c, tl, mro⟩ := PySem.F.called_set.mro
  have g1 := PySem.F.called_set.made
  have g2 := PySem.F.called_set.sub
  have g3 := PySem.F.called_set.notType
  have g4 := PySem.F.called_set.canCreate
  have g5 := PySem.F.typeCall_set_1 (.ref l)
  refine wpAny_call (codeAny_of_tree ?_)
  show wpAny _ _ (callAny (.type "set") _) _ _ _
  refine wpAny_pure ⟨Code.quiet_builtin _ (by decide +kernel), codeAny_builtin PySem.F.entry_type_call ?_⟩
  rw [Around.under_plain (weight_type_call_type "set" [.ref l] []) rfl]
  repeat (any_goals (first | assumption | wp_step))
  refine codeAny_mono (code_set_new_1 (.ref l) (E := E) (Q₁ := fun ob t => ∃ led : Bool, ob = .ref s.heap.objs.size ∧ t = { s with heap := s.heap.push (setBare led) }) fun led => ⟨led, rfl, rfl⟩) fun r t hr => ?_
  match r, hr with
  | .error _, hr => exact hr
  | .ok .next, hr => exact hr.elim
  | .ok .brk, hr => exact hr.elim
  | .ok .cont, hr => exact hr.elim
  | .ok (.ret ob), ⟨led, e1, e2⟩ =>
    subst e1 e2
    have atS : (s.heap.push (setBare led)).get? s.heap.objs.size = some (setBare led) := Heap.get?_push_size _ rfl
    have tyS : Shared.TypeIs { s with heap := s.heap.push (setBare led) } (.ref s.heap.objs.size) "set" := ⟨_, atS, rfl⟩
    have g6 := PySem.F.called_set.init.lookup
    have g7 := PySem.F.called_set.init.bind (.ref s.heap.objs.size)
    repeat (any_goals (first | assumption | wp_step))
    refine codeAny_mono (codeAny_call_builtin (R := wants (fun r t => r = .none ∧ ∃ h' tk, t = { s with heap := h', toks := tk } ∧ SetAt P w h' s.heap.objs.size xs items.size ∧ ∀ b o, b < s.heap.objs.size → s.heap.get? b = some o → h'.get? b = some o) E)
      PySem.F.called_set.init.plain PySem.F.entry_set_init (check_set_init_1 tyS ?_)) fun r2 t2 hr2 => ?_
    · obtain ⟨⟨k1, k2, k3, k4⟩, ho, hc, nl, hd⟩ := hl
      dsimp only at hc hd
      subst hc hd
      have ho' : (s.heap.push (setBare led)).get? l = some { cls := .type "list", dict := k2, data := .seq items nl, slots := k4 } := Heap.get?_push_of_some _ ho
      have q1 := PySem.F.sub_list_set
      have q2 := PySem.F.sub_list_frozenset
      have q3 : (Value.type "list" == Value.type "dict") = false := by decide
      have hl1 : (s.heap.push (setBare led)).IsList l items := ⟨_, ho', rfl, nl, rfl⟩
      unfold Builtin.«set.__init__» noKeywords Builtin.Frozenset.updateFrom
      generalize hPI : pyIter = PI
      wp_walk
      subst hPI
      refine wpAny_pyIter_list hl1 (wpAny_bind (wpAny_runValue ?_))
      have lS : l < s.heap.objs.size := Heap.lt_size ho
      have lI : l ≠ (s.heap.push (setBare led)).objs.size := by
        rw [Heap.size_push]
        exact Nat.ne_of_lt (Nat.lt_succ_of_lt lS)
      have nS : s.heap.objs.size ∉ [(s.heap.push (setBare led)).objs.size, l] := by
        rw [Heap.size_push]
        simp only [List.mem_cons, List.not_mem_nil, or_false, not_or]
        exact ⟨Nat.ne_of_lt (Nat.lt_succ_self _), Nat.ne_of_gt lS⟩
      refine fill ((Walks.list (by simp [hh]) _ l lI items).toS) nS (xs := xs) (fun i v hv => ?_) hb items.size 0 _ (Nat.zero_add _) ⟨⟨_, Heap.get?_push_size _ rfl, rfl, rfl⟩, hl1.push _⟩ ?_ fun s' mv at' => ?_
      · exact strs_ix hi i v (by rw [Array.getElem?_toList]; exact hv)
      · exact PyProof.Rows.SetOf_congr ((PyProof.Rows.setObjOf_fresh (knd := PySem.strKind P w) led).setOf (Heap.get?_push_of_some _ atS) (by unfold scanBound; omega)) (fun _ => rfl) rfl
      · obtain ⟨h', g', d', tk', os'⟩ := s'
        cases (show g' = s.gens from mv.gens)
        cases (show d' = s.drawn from mv.drawn)
        cases (show os' = s.os from mv.os)
        show wpAny _ _ _ _ _ _
        refine wpAny_pure ?_
        show wpAny _ _ (ret Value.none) _ _ _
        refine wpAny_pure ⟨rfl, h', tk', rfl, at', fun b o hb2 eo => mv.heap b o ?_ (Heap.get?_push_of_some _ (Heap.get?_push_of_some _ eo))⟩
        simp only [List.mem_cons, List.not_mem_nil, or_false, not_or]
        exact ⟨Nat.ne_of_lt hb2, by rw [Heap.size_push]; exact Nat.ne_of_lt (Nat.lt_succ_of_lt hb2)⟩
    · match r2, hr2 with
      | .error _, hr2 => exact hr2
      | .ok .next, hr2 => exact hr2.elim
      | .ok .brk, hr2 => exact hr2.elim
      | .ok .cont, hr2 => exact hr2.elim
      | .ok (.ret _), ⟨e3, h', tk, e4, at', keep⟩ =>
        subst e3 e4
        repeat (any_goals (first | assumption | wp_step))
        exact h _ _ at' keep
end
end Gd
set_option Elab.async false
set_option linter.all false
set_option maxRecDepth 100000
set_option maxHeartbeats 4000000
namespace Gd
open PySem PySem.Spec PyProof.Rows L2 Evl
theorem strs_vals : ∀ {ys : List Str} {us : List Value}, Vals (ys.map V.str) us → PyProof.Rows.StrsAre us ys
  | [], _, .nil => .nil
  | y :: ys, _, .cons r t => by
    obtain ⟨k, e⟩ := r
    subst e
    exact .cons y k (strs_vals t)
/-- the different ones -/
def many (xs : List Str) : Nat := (met xs xs.length).length
theorem met_app (xs ys : List Str) : ∀ i, i ≤ xs.length → met (xs ++ ys) i = met xs i
  | 0, _ => rfl
  | i + 1, h => by
    have ih := met_app xs ys i (by omega)
    unfold met
    dsimp only
    rw [ih]
    have e : (xs ++ ys).getD i Str.empty = xs.getD i Str.empty := by
      simp only [List.getD_eq_getElem?_getD]
      rw [List.getElem?_append_left (by omega)]
    rw [e]
theorem met_mem (xs : List Str) : ∀ i, i ≤ xs.length → ∀ y, y ∈ met xs i ↔ y ∈ xs.take i
  | 0, _, y => by simp [met]
  | i + 1, h, y => by
    have ih := met_mem xs i (by omega)
    have hx : xs.getD i Str.empty = xs[i] := by simp [List.getD_eq_getElem?_getD, show i < xs.length by omega]
    rw [List.take_succ_eq_append_getElem (by omega)]
    unfold met
    dsimp only
    rw [hx]
    by_cases c : (met xs i).contains xs[i] = true
    · rw [if_pos c, ih, List.mem_append, List.mem_singleton]
      have q : xs[i] ∈ xs.take i := (ih _).mp (by simpa using c)
      exact ⟨.inl, fun z => z.elim id fun e => e ▸ q⟩
    · rw [if_neg c, List.mem_append, List.mem_append, ih]
/-- as many different ones as there are: no two are equal -/
theorem many_nodup (xs : List Str) : ∀ i, i ≤ xs.length → ((met xs i).length = i ↔ (xs.take i).Nodup)
  | 0, _ => by simp [met]
  | i + 1, h => by
    have ih := many_nodup xs i (by omega)
    have hl := met_len xs i
    have hx : xs.getD i Str.empty = xs[i] := by simp [List.getD_eq_getElem?_getD, show i < xs.length by omega]
    have mm := met_mem xs i (by omega) xs[i]
    rw [List.take_succ_eq_append_getElem (by omega), List.nodup_append]
    unfold met
    dsimp only
    rw [hx]
    by_cases c : (met xs i).contains xs[i] = true
    · rw [if_pos c]
      have q : xs[i] ∈ xs.take i := mm.mp (by simpa using c)
      exact ⟨fun e => by omega, fun ⟨_, _, z⟩ => absurd rfl (z _ q _ (List.mem_singleton.mpr rfl))⟩
    · rw [if_neg c, List.length_append, List.length_singleton]
      have q : xs[i] ∉ xs.take i := fun z => c (by simpa using mm.mpr z)
      constructor
      · intro e
        refine ⟨ih.mp (by omega), by simp, fun a ha b hb e2 => ?_⟩
        rw [List.mem_singleton] at hb
        exact q (by rw [← hb, ← e2]; exact ha)
      · intro ⟨z, _, _⟩
        have := ih.mpr z
        omega
theorem many_eq (xs : List Str) : decide (many xs = xs.length) = decide xs.Nodup := by
  have h := many_nodup xs xs.length (Nat.le_refl _)
  rw [List.take_length] at h
  unfold many
  by_cases c : xs.Nodup
  · rw [decide_eq_true c, decide_eq_true (h.mpr c)]
  · rw [decide_eq_false c, decide_eq_false fun z => c (h.mp z)]
section
variable {X : Cx}
/-- len(set(xs)), xs a list of texts -/
def tLenSet (K : PySem.W.Frag) (ta : TE) : TE := fun σ H Q => ta σ H fun x H1 => ∃ (l : Addr) (xs : List Str), x = .ref l ∧ SqL K H1 l (xs.map V.str) ∧ xs.length ≤ 1000 ∧ Q (.int (many xs : Nat)) H1
theorem pe_lenSet {a : Expr} {ta : TE} {p p2 q pos : Pos} (hc : X.calm = true) (hg : Gl X "len") (hm : X.mg "len" = none) (hg2 : Gl X "set") (hm2 : X.mg "set" = none) (ha : PE X a ta)
    (na : starEach [a] X.env = (false, eval a X.env) :: starEach [] X.env := by rfl) : PE X (.Call (.Name "len" p) [.Call (.Name "set" p2) [a] [] q] [] pos) (tLenSet X.K ta) := by
  constructor
  intro pins s σ H Q I h
  refine Call_ (ld_blt I hg hm boot_len (PyProof.Rows.callWith_builtin1 (PyProof.Rows.args_cons ?_ rfl) rfl rfl))
  refine Call_ (ld_blt I hg2 hm2 boot_set (PyProof.Rows.callWith_type1 (PyProof.Rows.args_cons (thn (ha.run pins s σ H _ I h) fun v s1 ⟨x, H1, I1, r1, q1⟩ => PyProof.Rows.args_nil ?_) na) na rfl))
  obtain ⟨l, xs, e, hq, hz, q2⟩ := q1
  subst e
  cases r1
  obtain ⟨its, r, pl, _⟩ := I1.list hq
  have hl : its.toArray.size = xs.length := by rw [List.size_toArray, ← r.length, List.length_map]
  have hb : its.toArray.size + 1 < scanBound := by
    rw [hl]
    exact Nat.lt_of_le_of_lt (Nat.add_le_add_right hz 1) (by decide)
  refine call_setL (I1.ok.hd hc) pl.isList (by simpa using strs_vals r) hb fun h' tk hS keep => PyProof.Rows.args_nil ?_
  rw [hl] at hS
  obtain ⟨o, es, ep, t, ho, hex, hd, _, _, _, hf, hn⟩ := hS
  have I2 : L2.Inv X pins σ H1 { s1 with heap := h', toks := tk } := I1.kept fun b o e => keep b o (Heap.lt_size e) e
  have hm' : es.size = many xs := hn
  have hle : many xs ≤ xs.length := met_len xs xs.length
  refine call_len_set ho hex hd hf (by rw [hm']; omega) ⟨.int (many xs : Nat), H1, I2.tok _, ⟨_, by rw [hm']⟩, q2⟩
end
end Gd
set_option Elab.async false
set_option linter.all false
set_option maxRecDepth 100000
set_option maxHeartbeats 4000000
namespace Gd
open PySem PySem.Spec PyProof.Rows L2 Evl
section
variable {K : PySem.W.Frag} {σ : L2.St} {H H' : Hp} {ta tb : TE} {x y z v : V} {a : Addr} {xs : List V} {ds : List PyData}
theorem DqAll.len {vs : List V} {ds : List PyData} (h : DqAll K H vs ds) : vs.length = ds.length := by
  induction ds generalizing vs with
  | nil =>
    cases h
    rfl
  | cons d ds ih =>
    cases h with
    | cons h r => rw [List.length_cons, List.length_cons, ih r]
theorem DqAll.get {vs : List V} {ds : List PyData} (h : DqAll K H vs ds) : ∀ (i : Nat) (d : PyData), ds[i]? = some d → ∃ v, vs[i]? = some v ∧ Dq K H v d := by
  induction ds generalizing vs with
  | nil => exact fun i d e => by simp at e
  | cons d ds ih =>
    cases h with
    | cons h r =>
      intro i d' e
      cases i with
      | zero =>
        cases e
        exact ⟨_, rfl, h⟩
      | succ i => exact ih r i d' e
theorem DqAll.up {vs : List V} {ds : List PyData} (h : DqAll K H vs ds) (e : Ex H H') : DqAll K H' vs ds := Dq.monoAll e ds vs h
theorem ev_lenT (ha : Ev ta σ H (.ref a)) (h : SqT K H a xs) : Ev (tCB (rLenS K) (tCons ta tNil)) σ H (.int (xs.length : Int)) := fun H1 e Q q =>
  ha H1 e _ fun H2 e2 => ⟨a, xs, rfl, Or.inr (ex_t (e.trans e2) h), q H2 e2⟩
theorem ev_eqI {i j : Int} (h1 : Ev ta σ H (.int i)) (h2 : Ev tb σ H (.int j)) : Ev (tOp rEq ta tb) σ H (.bl (decide (i = j))) := ev_is (ev_op h1 h2 (rv_eq rfl)) (by
  congr 1
  by_cases e : i = j
  · rw [e, decide_eq_true rfl, decide_eq_true rfl]
  · rw [decide_eq_false e, decide_eq_false fun z => e (V.int.inj z)])
theorem ev_neI {i j : Int} (h1 : Ev ta σ H (.int i)) (h2 : Ev tb σ H (.int j)) : Ev (tOp rNe ta tb) σ H (.bl (!decide (i = j))) := ev_is (ev_op h1 h2 (rv_ne rfl)) (by
  congr 2
  by_cases e : i = j
  · rw [e, decide_eq_true rfl, decide_eq_true rfl]
  · rw [decide_eq_false e, decide_eq_false fun z => e (V.int.inj z)])
theorem ev_itT {i : Nat} (h1 : Ev ta σ H (.ref a)) (h : SqT K H a xs) (hv : xs[i]? = some v) : Ev (tOp (rIxT K) ta (tC (.int (i : Int)))) σ H v := ev_op h1 ev_c (rv_ixT h (at_of rfl hv))
theorem ev_it0 (h1 : Ev ta σ H (.ref a)) (h : SqT K H a (v :: xs)) : Ev (tOp (rIxT K) ta (tC (.int 0))) σ H v := ev_op h1 ev_c (rv_ixT h (at_of (j := 0) rfl rfl))
theorem ev_it1 (h1 : Ev ta σ H (.ref a)) (h : SqT K H a (x :: v :: xs)) : Ev (tOp (rIxT K) ta (tC (.int 1))) σ H v := ev_op h1 ev_c (rv_ixT h (at_of (j := 1) rfl rfl))
theorem ev_and1 {b : Bool} (h : Ev ta σ H (.bl true)) (h2 : Ev tb σ H (.bl b)) : Ev (tAndV ta tb) σ H (.bl b) := ev_is (ev_andV h fun _ => h2) (by rw [Bool.true_and])
theorem ev_and0 (h : Ev ta σ H (.bl false)) : Ev (tAndV ta tb) σ H (.bl false) := ev_is (ev_andV (b := true) h fun z => nomatch z) rfl
theorem ev_and2 {b c : Bool} (h : Ev ta σ H (.bl b)) (h2 : Ev tb σ H (.bl c)) : Ev (tAndV ta tb) σ H (.bl (b && c)) := ev_andV h fun _ => h2
end
end Gd
namespace K01
open PySem PySem.Spec PyProof.Rows L2 Gd Evl
theorem spv {K : PySem.W.Frag} {f : PyData → Bool} {H : Hp} {v : V} {d : PyData} (hd : Dq K H v d) (hs : small d = true) : SpV (spB K f) [v] H (.bl (f d)) := fun H1 e Q q E => ⟨v, d, rfl, hd.up e, hs, q⟩
def isColD : PyData → Bool
  | .tuple [a, b] => isNameD a && isNameD b
  | _ => false
structure TbT (K : PySem.W.Frag) (mg : Str → Option Value) (fN fC fT : Addr) : Prop where
  nm : NmT K mg
  tuple : mg "tuple" = none
  dict : mg "dict" = none
  list : mg "list" = none
  set : mg "set" = none
  gN : mg "is_name" = some (.ref fN)
  gC : mg "_is_column" = some (.ref fC)
  gT : mg "_is_table" = some (.ref fT)
  mC : ∃ t, mg "MOST_COLUMNS" = some (.int 3 t)
  mF : ∃ t, mg "MOST_FLAGS" = some (.int 2 t)
  mT : ∃ t, mg "MOST_TABLES" = some (.int 4 t)
section
variable {P : Program} {w : World} {K : PySem.W.Frag} {mg : Str → Option Value} {base : Heap} {f fN fC fT : Addr} {fd fdN fdC fdT : FuncData}
theorem scIsColumn : FnScope ["thing"] ["thing"] (defScope sIsColumn) := ⟨rfl, rfl, rfl, by decide +kernel, rfl, by decide +kernel, by decide +kernel⟩
theorem ok_iscol (T : TbT K mg fN fC fT) (FN : FnP K "is_name" sIsName fN fdN) (F : FnP K "_is_column" sIsColumn f fd) : FnOk P w K mg base CX0 2 f fd ["thing"] (spB K isColD) := by
  have GN : FnOk P w K mg base CX0 1 fN fdN ["thing"] (spB K isNameD) := ok_isname T.nm FN
  have bN : Binds K fdN ["thing"] [] := FN.bindsN fun _ _ _ _ _ _ us hl => match us, hl with | [_], _ => rfl
  refine F.ok scIsColumn (fun vs H Q E h => ?_) (fun cdv A outer s H vs Q E hr h => ⟨_, PSs.nox (pss_one (ps_ret (pe_and (pe_callB call_isi (by rfl) T.nm.isi (by decide +kernel) (pa_cons (pv 0) (pa_cons (pe_bltn (v := .ty "tuple") (by rfl) T.tuple (by decide +kernel) rfl) pa_nil)))
    (pe_and (pe_cmpR op_eq (pe_callB call_len_seq (by rfl) T.nm.len PySem.boot_len (pa_cons (pv 0) pa_nil)) pe_int (nomark _))
    (pe_and (pe_call GN hr rfl T.gN FN.kp bN .nil pass0 (pa_cons (pe_ix ix_tup (pv 0) pe_int (fun _ _ => rfl)) pa_nil)) (pe_one (pe_call GN hr rfl T.gN FN.kp bN .nil pass0 (pa_cons (pe_ix ix_tup (pv 0) pe_int (fun _ _ => rfl)) pa_nil)))))))), ?_⟩)
  · obtain ⟨v, d, rfl, _⟩ := h
    rfl
  · obtain ⟨v, d, rfl, hd, hs, k⟩ := h
    have ei : Ev (tCB (rIsi K) (tCons (tVar 0) (tCons (tC (.ty "tuple")) tNil))) (L2.start ["thing"] [v]) H (.bl (decide (tyD d = "tuple"))) := ev_isi (ev_var rfl) hd
    cases d with
    | tuple ds =>
      cases hd with
      | @tup a xs _ h r =>
        replace h : SqT K H a xs := .inl h
        have hl := r.len
        have e0 : (L2.start ["thing"] [V.ref a])[0]? = some (some (.ref a)) := rfl
        have el := ev_lenT (K := K) (ev_var (H := H) e0) h
        rw [hl] at el
        by_cases h2 : ds.length = 2
        · obtain ⟨d1, d2, rfl⟩ : ∃ d1 d2, ds = [d1, d2] := by
            match ds, h2 with
            | [d1, d2], _ => exact ⟨d1, d2, rfl⟩
          cases r with
          | cons h1 r =>
            cases r with
            | cons h2 r =>
              cases r
              have hs' : small d1 = true ∧ small d2 = true := by simpa [small, smallAll] using hs
              have g1 := ev_it0 (ev_var (H := H) e0) h
              have g2 := ev_it1 (ev_var (H := H) e0) h
              refine s_ret (v := .bl (isNameD d1 && isNameD d2)) (ev_and1 ei (ev_and1 (ev_is (ev_eqI el ev_c) rfl) (ev_and2 (ev_call (ea_cons g1 ea_nil) (spv h1 hs'.1)) (ev_call (ea_cons g2 ea_nil) (spv h2 hs'.2))))) fun H1 e1 => ?_
              exact k H1 e1
        · have q : isColD (.tuple ds) = false := by
            match ds, h2 with
            | [], _ => rfl
            | [_], _ => rfl
            | [_, _], h2 => exact absurd rfl h2
            | _ :: _ :: _ :: _, _ => rfl
          rw [q] at k
          exact s_ret (ev_and1 ei (ev_and0 (ev_is (ev_eqI el ev_c) (congrArg V.bl (decide_eq_false fun z => h2 (by omega)))))) k
    | _ => exact s_ret (ev_and0 ei) k
end
end K01
set_option Elab.async false
set_option linter.all false
set_option maxRecDepth 100000
set_option maxHeartbeats 4000000
namespace Gd
open PySem PySem.Spec PyProof.Rows L2 Evl
section
variable {K : PySem.W.Frag} {σ : L2.St} {H H' : Hp} {ta tb te tl : TE} {t u : TT} {x y z v : V} {a : Addr} {xs ys : List V} {ds : List PyData} {D : Ends} {tz : TS}
/-- the new list at Dl holds the first i of vals -/
def Lw (H : Hp) (vals : List V) (Dl : Addr) (i : Nat) (H' : Hp) : Prop := H Dl = none ∧ Ex H H' ∧ H' Dl = some (.lst (vals.take i))
theorem lw_turn {vals : List V} {Dl : Addr} {i : Nat} {σ2 : L2.St} {y : V} (p : Lw H vals Dl i H') (hi : vals[i]? = some y) (hz : vals.length ≤ 50000) (he : Ev te σ2 H y) :
    te σ2 H' fun y H4 => ∃ acc, H4 Dl = some (.lst acc) ∧ acc.length < sizeLine ∧ Lw H vals Dl (i + 1) (L2.upd H4 Dl (.lst (acc ++ [y]))) := by
  obtain ⟨p1, p2, p3⟩ := p
  have hl : i < vals.length := (List.getElem?_eq_some_iff.mp hi).1
  refine he H' p2 _ fun H4 e4 => ⟨vals.take i, e4 Dl _ p3, sz_lt (by rw [List.length_take]; omega), p1, Ex.mut (p2.trans e4) p1, ?_⟩
  rw [upd_same, List.take_add_one, hi] <;> rfl
/-- [e for x in t], t a tuple that stands, by the items' values -/
theorem el_lcT {j : Nat} {vs : List Nat} (vals : List V) (h : Ev tl σ H (.ref a)) (hx : SqT K H a xs) (hl : vals.length = xs.length) (hz : xs.length ≤ 40000) (hw : ∀ x, wipe ((wipe σ vs).set j (some x)) vs = wipe σ vs)
    (he : ∀ (i : Nat) (x y : V) H1, Ex H H1 → xs[i]? = some x → vals[i]? = some y → Ev te ((wipe σ vs).set j (some x)) H1 y) : EvL (tLc (iTup K tl) (gName j) tYes te vs) σ H vals := fun H0 e Q q => h H0 e _ fun H1 e1 =>
  ⟨a, rfl, ⟨xs, ex_t (e.trans e1) hx⟩, fun Dl hD => lc_tup (xs := xs) (Lw H1 vals Dl) ⟨hD, Ex.new hD, upd_same⟩ (fun i H' _ p => ex_t ((e.trans e1).trans p.2.1) hx) (fun i x H' hi p => by
      have hi' : i < vals.length := by rw [hl]; exact (List.getElem?_eq_some_iff.mp hi).1
      exact ⟨hw x, lw_turn p (List.getElem?_eq_getElem hi') (by omega) (he i x _ H1 (e.trans e1) hi (List.getElem?_eq_getElem hi'))⟩)
    (fun H' p => q Dl H' (fresh_back e1 p.1) (e1.trans p.2.1) (by rw [p.2.2, ← hl, List.take_length]))⟩
/-- [e for x, y in t], t a tuple of pairs -/
theorem el_lcT2 {j k : Nat} {vs : List Nat} (vals : List V) (h : Ev tl σ H (.ref a)) (hx : SqT K H a xs) (hl : vals.length = xs.length) (hz : xs.length ≤ 40000) (hw : ∀ x y, wipe (((wipe σ vs).set j (some x)).set k (some y)) vs = wipe σ vs)
    (he : ∀ (i : Nat) (x : V), xs[i]? = some x → ∃ p y z, x = .ref p ∧ SqT K H p [y, z] ∧ ∀ (u : V) H1, Ex H H1 → vals[i]? = some u → Ev te (((wipe σ vs).set j (some y)).set k (some z)) H1 u) :
    EvL (tLc (iTup K tl) (gTup K 2 (gCons (gName j) (gCons (gName k) gNil))) tYes te vs) σ H vals := fun H0 e Q q => h H0 e _ fun H1 e1 =>
  ⟨a, rfl, ⟨xs, ex_t (e.trans e1) hx⟩, fun Dl hD => lc_tup (xs := xs) (Lw H1 vals Dl) ⟨hD, Ex.new hD, upd_same⟩ (fun i H' _ p => ex_t ((e.trans e1).trans p.2.1) hx) (fun i x H' hi p => by
      have hi' : i < vals.length := by rw [hl]; exact (List.getElem?_eq_some_iff.mp hi).1
      obtain ⟨c, y, z, rfl, hc, hv⟩ := he i x hi
      exact ⟨c, _, rfl, ex_t ((e.trans e1).trans p.2.1) hc, rfl, y, _, rfl, z, _, rfl, rfl, hw y z, lw_turn p (List.getElem?_eq_getElem hi') (by omega) (hv _ H1 (e.trans e1) (List.getElem?_eq_getElem hi'))⟩)
    (fun H' p => q Dl H' (fresh_back e1 p.1) (e1.trans p.2.1) (by rw [p.2.2, ← hl, List.take_length]))⟩
theorem ev_allN {bs : List Bool} (h : EvL te σ H (bs.map V.bl)) : Ev (tCB (rAll K) (tCons te tNil)) σ H (.bl (bs.all id)) := fun H1 e Q q => h H1 e _ fun p H2 _ e2 hp => ⟨p, bs, rfl, sq_of hp, q H2 e2⟩
theorem el_listT (ha : Ev ta σ H (.ref a)) (h : SqT K H a xs) : EvL (tCB (rListS K) (tCons ta tNil)) σ H xs := fun H1 e Q q =>
  ha H1 e _ fun H2 e2 => ⟨a, xs, rfl, Or.inr (ex_t (e.trans e2) h), fun l hl => q l _ (fresh_back e2 hl) (e2.trans (Ex.new hl)) upd_same⟩
theorem el_cat (ha : EvL ta σ H xs) (hb : EvL tb σ H ys) (hz : xs.length + ys.length ≤ 100000) : EvL (tOp rCat ta tb) σ H (xs ++ ys) := fun H1 e Q q =>
  ha H1 e _ fun p H2 hn e2 hp => hb H2 (e.trans e2) _ fun r H3 hn3 e3 hr => ⟨p, r, xs, ys, rfl, rfl, e3 p _ hp, hr, sz_of hz, fun m hm => q m _ (fresh_back (e2.trans e3) hm) ((e2.trans e3).trans (Ex.new hm)) upd_same⟩
theorem ev_lenSet {l : Addr} {zs : List Str} (ha : Ev ta σ H (.ref l)) (h : SqL K H l (zs.map V.str)) (hz : zs.length ≤ 1000) : Ev (Gd.tLenSet K ta) σ H (.int ((many zs : Nat) : Int)) := fun H1 e Q q =>
  ha H1 e _ fun H2 e2 => ⟨l, zs, rfl, ex_l (e.trans e2) h, hz, q H2 e2⟩
/-- a <= b <= c -/
theorem et_le2 {tc : TE} {i j k : Int} (h1 : Ev ta σ H (.int i)) (h2 : Ev tb σ H (.int j)) (h3 : Ev tc σ H (.int k)) : EvT (tTest (tChain (rI0 fun i j => .bl (decide (i ≤ j))) (rI0 fun i j => .bl (decide (i ≤ j))) ta tb tc)) σ H (decide (i ≤ j) && decide (j ≤ k)) := fun H1 e Q q =>
  h1 H1 e _ fun H2 e2 => h2 H2 (e.trans e2) _ fun H3 e3 => ⟨i, j, rfl, rfl, _, rfl, by
    by_cases c : i ≤ j
    · rw [decide_eq_true c] at q ⊢
      refine iteT ?_
      exact h3 H3 ((e.trans e2).trans e3) _ fun H4 e4 => ⟨j, k, rfl, rfl, _, rfl, by
        have z := q H4 ((e2.trans e3).trans e4)
        rw [Bool.true_and] at z
        exact z⟩
    · rw [decide_eq_false c] at q ⊢
      refine iteF ⟨false, rfl, ?_⟩
      exact q H3 (e2.trans e3)⟩
end
end Gd
set_option Elab.async false
set_option linter.all false
set_option maxRecDepth 100000
set_option maxHeartbeats 4000000
namespace K01
open PySem PySem.Spec PyProof.Rows L2 Gd Evl
def colName : PyData → Str
  | .tuple [.str a, _] => a
  | _ => Str.empty
def txt : PyData → Str
  | .str x => x
  | _ => Str.empty
def isTableD : PyData → Bool
  | .tuple [.tuple cs, .tuple fs] => decide (1 ≤ cs.length) && decide (cs.length ≤ 3) && decide (fs.length ≤ 2) && (cs.all isColD && fs.all isNameD) && decide (cs.map colName ++ fs.map txt).Nodup
  | _ => false
theorem isCol_shape {d : PyData} (h : isColD d = true) : ∃ a b, d = .tuple [.str a, .str b] ∧ isNameS a = true ∧ isNameS b = true := by
  unfold isColD at h
  split at h
  · rename_i a b
    rw [Bool.and_eq_true] at h
    obtain ⟨h1, h2⟩ := h
    cases a with
    | str x =>
      cases b with
      | str y => exact ⟨x, y, rfl, h1, h2⟩
      | _ => cases h2
    | _ => cases h1
  · cases h
theorem isName_shape {d : PyData} (h : isNameD d = true) : ∃ a, d = .str a ∧ isNameS a = true := by
  cases d with
  | str x => exact ⟨x, rfl, h⟩
  | _ => cases h
theorem table_shape {d : PyData} (h : isTableD d = true) : ∃ cs fs, d = .tuple [.tuple cs, .tuple fs] := by
  unfold isTableD at h
  split at h
  · exact ⟨_, _, rfl⟩
  · cases h
theorem names_vals {K : PySem.W.Frag} {H : Hp} : ∀ {fs : List PyData} {vs : List V}, DqAll K H vs fs → fs.all isNameD = true → vs = (fs.map txt).map V.str
  | [], _, .nil, _ => rfl
  | _ :: _, _, .cons h r, a => by
    rw [List.all_cons, Bool.and_eq_true] at a
    obtain ⟨x, rfl, _⟩ := isName_shape a.1
    cases h
    rw [List.map_cons, List.map_cons, ← names_vals r a.2] <;> rfl
theorem small_all {ds : List PyData} (h : smallAll ds = true) : ∀ d ∈ ds, small d = true := by
  induction ds with
  | nil => exact fun d m => absurd m List.not_mem_nil
  | cons d ds ih =>
    rw [smallAll, Bool.and_eq_true] at h
    intro e m
    rcases List.mem_cons.mp m with rfl | m
    · exact h.1
    · exact ih h.2 e m
abbrev NT : List Str := ["thing", "columns", "flags", "names", "column", "flag", "name", "_"]
section
variable {P : Program} {w : World} {K : PySem.W.Frag} {mg : Str → Option Value} {base : Heap} {f fN fC fT : Addr} {fd fdN fdC fdT : FuncData}
theorem scIsTable : FnScope NT ["thing"] (defScope sIsTable) := ⟨rfl, rfl, rfl, by decide +kernel, rfl, by decide +kernel, by decide +kernel⟩
theorem ok_istab (T : TbT K mg fN fC fT) (FN : FnP K "is_name" sIsName fN fdN) (FC : FnP K "_is_column" sIsColumn fC fdC) (F : FnP K "_is_table" sIsTable f fd) : FnOk P w K mg base CX0 3 f fd ["thing"] (spB K isTableD) := by
  have GN : FnOk P w K mg base CX0 1 fN fdN ["thing"] (spB K isNameD) := ok_isname T.nm FN
  have GC : FnOk P w K mg base CX0 2 fC fdC ["thing"] (spB K isColD) := ok_iscol T FN FC
  have bN : Binds K fdN ["thing"] [] := FN.bindsN fun _ _ _ _ _ _ us hl => match us, hl with | [_], _ => rfl
  have bC : Binds K fdC ["thing"] [] := FC.bindsN fun _ _ _ _ _ _ us hl => match us, hl with | [_], _ => rfl
  obtain ⟨t1, gC⟩ := T.mC
  obtain ⟨t2, gF⟩ := T.mF
  refine F.ok scIsTable (fun vs H Q E h => ?_) (fun cdv A outer s H vs Q E hr h => ⟨_, PSs.nox (pss_cons (ps_if (PW.pt (pw_or (pt_not (pt_val (pe_callB call_isi (by rfl) T.nm.isi (by decide +kernel) (pa_cons (pv 0) (pa_cons (pe_bltn (v := .ty "tuple") (by rfl) T.tuple (by decide +kernel) rfl) pa_nil)))))
      (pw_or1 (pt_cmpR op_ne (pe_callB call_len_seq (by rfl) T.nm.len PySem.boot_len (pa_cons (pv 0) pa_nil)) pe_int (nomark _))))) (pss_one (ps_ret pe_bl)) pss_nil)
    (pss_cons (ps_asg (pv 0) (pg_tup rfl (pgs_cons (pg_name (i := 1) scIsTable.nd rfl (Or.inl rfl)) (pgs_cons (pg_name (i := 2) scIsTable.nd rfl (Or.inl rfl)) pgs_nil))))
    (pss_cons (ps_if (PW.pt (pw_or (pt_not (pt_val (pe_callB call_isi (by rfl) T.nm.isi (by decide +kernel) (pa_cons (pv 1) (pa_cons (pe_bltn (v := .ty "tuple") (by rfl) T.tuple (by decide +kernel) rfl) pa_nil)))))
      (pw_or1 (pt_not (pt_val (pe_callB call_isi (by rfl) T.nm.isi (by decide +kernel) (pa_cons (pv 2) (pa_cons (pe_bltn (v := .ty "tuple") (by rfl) T.tuple (by decide +kernel) rfl) pa_nil)))))))) (pss_one (ps_ret pe_bl)) pss_nil)
    (pss_cons (ps_if (PW.pt (pw_or (pt_not (pt_chain op_le op_le pe_int (pe_callB call_len_seq (by rfl) T.nm.len PySem.boot_len (pa_cons (pv 1) pa_nil)) (pe_glob (v := .int 3) rfl gC ⟨_, rfl⟩)))
      (pw_or1 (pt_cmpR op_gt (pe_callB call_len_seq (by rfl) T.nm.len PySem.boot_len (pa_cons (pv 2) pa_nil)) (pe_glob (v := .int 2) rfl gF ⟨_, rfl⟩) (nomark _))))) (pss_one (ps_ret pe_bl)) pss_nil)
    (pss_cons (ps_if (PW.pt (pw_or (pt_not (pt_val (pe_callB (cr_all rfl) (by rfl) T.nm.all (by decide +kernel) (pa_cons (pe_lc (own := [("column", 4)]) (g := gName 4) (tt := tYes) rfl scIsTable.nd (pi_tup (pv 1)) (blkOk_by (N := NT) (sc := defScope sIsTable) (by decide +kernel)) (fun _ _ _ _ _ => pg_name (i := 4) scIsTable.nd rfl (Or.inl rfl)) (fun _ _ _ _ _ => pts_nil)
          (fun _ _ _ _ _ => pe_call GC hr rfl T.gC FC.kp bC .nil pass0 (pa_cons (pv 4) pa_nil))) pa_nil))))
      (pw_or1 (pt_not (pt_val (pe_callB (cr_all rfl) (by rfl) T.nm.all (by decide +kernel) (pa_cons (pe_lc (own := [("flag", 5)]) (g := gName 5) (tt := tYes) rfl scIsTable.nd (pi_tup (pv 2)) (blkOk_by (N := NT) (sc := defScope sIsTable) (by decide +kernel)) (fun _ _ _ _ _ => pg_name (i := 5) scIsTable.nd rfl (Or.inl rfl)) (fun _ _ _ _ _ => pts_nil)
          (fun _ _ _ _ _ => pe_call GN (hr.mono (by decide)) rfl T.gN FN.kp bN .nil pass0 (pa_cons (pv 5) pa_nil))) pa_nil))))))) (pss_one (ps_ret pe_bl)) pss_nil)
    (pss_cons (ps_set (i := 3) scIsTable.nd rfl (Or.inl rfl) (pe_op op_cat (pe_lc (own := [("name", 6), ("_", 7)]) (g := gTup K 2 (gCons (gName 6) (gCons (gName 7) gNil))) (tt := tYes) rfl scIsTable.nd (pi_tup (pv 1)) (blkOk_by (N := NT) (sc := defScope sIsTable) (by decide +kernel)) (fun _ _ _ _ _ => pg_tup rfl (pgs_cons (pg_name (i := 6) scIsTable.nd rfl (Or.inl rfl)) (pgs_cons (pg_name (i := 7) scIsTable.nd rfl (Or.inl rfl)) pgs_nil))) (fun _ _ _ _ _ => pts_nil)
          (fun _ _ _ _ _ => pv 6)) (pe_callTy call_list_of (by rfl) T.list (by decide +kernel) (pa_cons (pv 2) pa_nil))))
    (pss_one (ps_ret (pe_cmpR op_eq (Gd.pe_lenSet rfl rfl T.nm.len rfl T.set (pv 3)) (pe_callB call_len_seq (by rfl) T.nm.len PySem.boot_len (pa_cons (pv 3) pa_nil)) (nomark _)))))))))), ?_⟩)
  · obtain ⟨v, d, rfl, _⟩ := h
    rfl
  · obtain ⟨v, d, rfl, hd, hs, k⟩ := h
    have ei : Ev (tCB (rIsi K) (tCons (tVar 0) (tCons (tC (.ty "tuple")) tNil))) (L2.start NT [v]) H (.bl (decide (tyD d = "tuple"))) := ev_isi (ev_var rfl) hd
    have no : ∀ {b : Bool}, isTableD d = false → b = true → ∀ H1, Ex H H1 → Q (.bl false) H1 := fun q _ H1 e1 => by
      have z := k H1 e1
      rw [q] at z
      exact z
    by_cases ht : ∃ ds, d = .tuple ds
    · obtain ⟨ds, rfl⟩ := ht
      cases hd with
      | @tup a xs _ h r =>
        replace h : SqT K H a xs := .inl h
        have hl := r.len
        have e0 : (L2.start NT [V.ref a])[0]? = some (some (.ref a)) := rfl
        have el := ev_lenT (K := K) (ev_var (H := H) e0) h
        rw [hl] at el
        by_cases h2 : ds.length = 2
        · obtain ⟨dc, df, rfl⟩ : ∃ dc df, ds = [dc, df] := by
            match ds, h2 with
            | [d1, d2], _ => exact ⟨d1, d2, rfl⟩
          cases r with
          | @cons vc _ _ _ hc r =>
            cases r with
            | @cons vf _ _ _ hf r =>
              cases r
              have hs' : small dc = true ∧ small df = true := by simpa [small, smallAll] using hs
              refine q_when (b := false) (et_or0 (et_is (et_no (et_B ei)) rfl) (et_is (et_test (ev_neI el ev_c)) rfl)) (fun z => nomatch z) fun _ H1 e1 => ?_
              refine ⟨_, e0, a, _, rfl, ex_t e1 h, rfl, vc, _, rfl, vf, _, rfl, rfl, ?_⟩
              have hc1 := hc.up e1
              have hf1 := hf.up e1
              have ec : Ev (tCB (rIsi K) (tCons (tVar 1) (tCons (tC (.ty "tuple")) tNil))) [some (V.ref a), some vc, some vf, none, none, none, none, none] H1 (.bl (decide (tyD dc = "tuple"))) := ev_isi (ev_var rfl) hc1
              have ef : Ev (tCB (rIsi K) (tCons (tVar 2) (tCons (tC (.ty "tuple")) tNil))) [some (V.ref a), some vc, some vf, none, none, none, none, none] H1 (.bl (decide (tyD df = "tuple"))) := ev_isi (ev_var rfl) hf1
              by_cases hcf : ∃ cs fs, dc = .tuple cs ∧ df = .tuple fs
              · obtain ⟨cs, fs, rfl, rfl⟩ := hcf
                cases hc1 with
                | @tup ac xc _ hxc rc =>
                  replace hxc : SqT K H1 ac xc := .inl hxc
                  cases hf1 with
                  | @tup af xf _ hxf rf =>
                    replace hxf : SqT K H1 af xf := .inl hxf
                    obtain ⟨zc, sc0⟩ : cs.length ≤ 1000 ∧ smallAll cs = true := by simpa [small] using hs'.1
                    obtain ⟨zf, sf0⟩ : fs.length ≤ 1000 ∧ smallAll fs = true := by simpa [small] using hs'.2
                    have sc := small_all sc0
                    have sf := small_all sf0
                    have lc := rc.len
                    have lf := rf.len
                    have isT : isTableD (.tuple [.tuple cs, .tuple fs]) = (decide (1 ≤ cs.length) && decide (cs.length ≤ 3) && decide (fs.length ≤ 2) && (cs.all isColD && fs.all isNameD) && decide (cs.map colName ++ fs.map txt).Nodup) := rfl
                    refine q_when (b := false) (et_or0 (et_is (et_no (et_B ec)) rfl) (et_is (et_no (et_B ef)) rfl)) (fun z => nomatch z) fun _ H2 e2 => ?_
                    have e02 := e1.trans e2
                    have n1 : ([some (V.ref a), some (V.ref ac), some (V.ref af), none, none, none, none, none] : L2.St)[1]? = some (some (.ref ac)) := rfl
                    have n2 : ([some (V.ref a), some (V.ref ac), some (V.ref af), none, none, none, none, none] : L2.St)[2]? = some (some (.ref af)) := rfl
                    have xc2 := ex_t e2 hxc
                    have xf2 := ex_t e2 hxf
                    have l1 := ev_lenT (K := K) (ev_var (H := H2) n1) xc2
                    have l2 := ev_lenT (K := K) (ev_var (H := H2) n2) xf2
                    rw [lc] at l1
                    rw [lf] at l2
                    refine q_when (b := !(decide ((1 : Int) ≤ (cs.length : Int)) && decide ((cs.length : Int) ≤ 3)) || decide ((2 : Int) < (fs.length : Int))) (et_or (et_no (et_le2 ev_c l1 ev_c)) fun _ => et_test (ev_gt l2 ev_c)) (fun hb H3 e3 => ?_) fun hb H3 e3 => ?_
                    · refine s_ret ev_c fun H4 e4 => no (b := true) ?_ rfl H4 ((e02.trans e3).trans e4)
                      rw [isT]
                      rcases Bool.or_eq_true_iff.mp hb with z | z
                      · have : (decide (1 ≤ cs.length) && decide (cs.length ≤ 3)) = false := by
                          rw [Bool.not_eq_true'] at z
                          rw [← z]
                          congr 1 <;> exact decide_eq_decide.mpr (by omega)
                        rw [this] <;> rfl
                      · have : decide (fs.length ≤ 2) = false := decide_eq_false (by have := of_decide_eq_true z; omega)
                        rw [this, Bool.and_false] <;> rfl
                    · have e03 := e02.trans e3
                      have e13 := e2.trans e3
                      obtain ⟨hb1, hb2⟩ := Bool.or_eq_false_iff.mp hb
                      have hb3 : (decide (1 ≤ cs.length) && decide (cs.length ≤ 3)) = true := by
                        rw [Bool.not_eq_false'] at hb1
                        rw [← hb1]
                        congr 1 <;> exact decide_eq_decide.mpr (by omega)
                      have hb4 : decide (fs.length ≤ 2) = true := decide_eq_true (by have := of_decide_eq_false hb2; omega)
                      have xc3 := ex_t e13 hxc
                      have xf3 := ex_t e13 hxf
                      have rc3 := rc.up e13
                      have rf3 := rf.up e13
                      have c1 := ev_allN (K := K) (bs := cs.map isColD) (el_lcT (K := K) (H := H3) (j := 4) (vs := [4]) (te := tCall (spB K isColD) [] E0 (tCons (tVar 4) tNil)) ((cs.map isColD).map V.bl) (ev_var n1) xc3 (by rw [List.length_map, List.length_map, lc]) (by rw [lc]; omega) (fun _ => rfl) fun i x y H4 e4 hx hy => by
                        rw [List.map_map, List.getElem?_map] at hy
                        cases hd : cs[i]? with
                        | none =>
                          rw [hd] at hy
                          cases hy
                        | some d =>
                          rw [hd] at hy
                          cases hy
                          obtain ⟨x', ex', hD⟩ := rc3.get i d hd
                          rw [hx] at ex'
                          cases ex'
                          exact ev_call (ea_cons (ev_var rfl) ea_nil) (spv (hD.up e4) (sc d (List.mem_of_getElem? hd))))
                      have c2 := ev_allN (K := K) (bs := fs.map isNameD) (el_lcT (K := K) (H := H3) (j := 5) (vs := [5]) (te := tCall (spB K isNameD) [] E0 (tCons (tVar 5) tNil)) ((fs.map isNameD).map V.bl) (ev_var n2) xf3 (by rw [List.length_map, List.length_map, lf]) (by rw [lf]; omega) (fun _ => rfl) fun i x y H4 e4 hx hy => by
                        rw [List.map_map, List.getElem?_map] at hy
                        cases hd : fs[i]? with
                        | none =>
                          rw [hd] at hy
                          cases hy
                        | some d =>
                          rw [hd] at hy
                          cases hy
                          obtain ⟨x', ex', hD⟩ := rf3.get i d hd
                          rw [hx] at ex'
                          cases ex'
                          exact ev_call (ea_cons (ev_var rfl) ea_nil) (spv (hD.up e4) (sf d (List.mem_of_getElem? hd))))
                      have a1 : (cs.map isColD).all id = cs.all isColD := by rw [List.all_map] <;> rfl
                      have a2 : (fs.map isNameD).all id = fs.all isNameD := by rw [List.all_map] <;> rfl
                      rw [a1] at c1
                      rw [a2] at c2
                      refine q_when (b := !cs.all isColD || !fs.all isNameD) (et_or (et_no (et_B c1)) fun _ => et_no (et_B c2)) (fun hb H4 e4 => ?_) fun hb H4 e4 => ?_
                      · refine s_ret ev_c fun H5 e5 => no (b := true) ?_ rfl H5 ((e03.trans e4).trans e5)
                        have q : (cs.all isColD && fs.all isNameD) = false := by
                          rcases Bool.or_eq_true_iff.mp hb with z | z
                          · rw [(by simpa using z : cs.all isColD = false)] <;> rfl
                          · rw [(by simpa using z : fs.all isNameD = false), Bool.and_false]
                        rw [isT, q, Bool.and_false] <;> rfl
                      · obtain ⟨q1, q2⟩ := Bool.or_eq_false_iff.mp hb
                        rw [Bool.not_eq_false'] at q1 q2
                        have e04 := e03.trans e4
                        have e14 := e13.trans e4
                        have xc4 := ex_t e14 hxc
                        have xf4 := ex_t e14 hxf
                        have rc4 := rc.up e14
                        have vf4 := names_vals rf q2
                        have lz : (cs.map colName ++ fs.map txt).length ≤ 1000 := by
                          have := of_decide_eq_true hb4
                          rw [Bool.and_eq_true] at hb3
                          have := of_decide_eq_true hb3.2
                          rw [List.length_append, List.length_map, List.length_map]
                          omega
                        have cat := el_cat (el_lcT2 (K := K) (H := H4) (j := 6) (k := 7) (vs := [6, 7]) (te := tVar 6) ((cs.map colName).map V.str) (ev_var n1) xc4 (by rw [List.length_map, List.length_map, lc]) (by rw [lc]; omega) (fun _ _ => rfl)
                          (fun i x hx => by
                            have hi : i < cs.length := by rw [← lc]; exact (List.getElem?_eq_some_iff.mp hx).1
                            obtain ⟨n1, n2, ed, _, _⟩ := isCol_shape (List.all_eq_true.mp q1 cs[i] (List.getElem_mem hi))
                            obtain ⟨x', ex', hD⟩ := rc4.get i cs[i] (List.getElem?_eq_getElem hi)
                            rw [hx] at ex'
                            cases ex'
                            rw [ed] at hD
                            cases hD with
                            | @tup p vs _ hp0 r =>
                              have hp := (show SqT K H4 p vs from .inl hp0)
                              cases r with
                              | cons h1 r =>
                                cases h1
                                cases r with
                                | cons h2 r =>
                                  cases r
                                  refine ⟨p, _, _, rfl, hp, fun u H5 e5 hu => ?_⟩
                                  rw [List.getElem?_map, List.getElem?_map, List.getElem?_eq_getElem hi] at hu
                                  cases hu
                                  rw [ed]
                                  exact ev_var rfl))
                          (el_listT (K := K) (ev_var n2) xf4) (by
                            rw [List.length_map, List.length_map, lf]
                            omega)
                        rw [vf4, ← List.map_append] at cat
                        refine q_asgL cat fun p H5 hn e5 hp => ?_
                        have n3 : (([some (V.ref a), some (V.ref ac), some (V.ref af), none, none, none, none, none] : L2.St).set 3 (some (.ref p)))[3]? = some (some (.ref p)) := rfl
                        refine s_ret (ev_eqI (ev_lenSet (K := K) (ev_var (H := H5) n3) (sq_of hp) lz) (ev_len (K := K) (ev_var (H := H5) n3) (sq_of hp))) fun H6 e6 => ?_
                        have z := k H6 ((e04.trans e5).trans e6)
                        rw [isT, hb3, hb4, q1, q2] at z
                        rw [List.length_map, show decide (((many (cs.map colName ++ fs.map txt) : Nat) : Int) = ((cs.map colName ++ fs.map txt).length : Int)) = decide (cs.map colName ++ fs.map txt).Nodup from by
                          rw [← many_eq]
                          exact decide_eq_decide.mpr (by omega)]
                        exact z
              · have q : isTableD (.tuple [dc, df]) = false := Bool.eq_false_iff.mpr fun z => by
                  obtain ⟨cs, fs, e⟩ := table_shape z
                  cases e
                  exact hcf ⟨cs, fs, rfl, rfl⟩
                refine q_when (b := true) (et_is (et_or (et_no (et_B ec)) fun _ => et_no (et_B ef)) ?_) (fun _ H2 e2 => ?_) (fun z => nomatch z)
                · by_cases c1 : tyD dc = "tuple"
                  · by_cases c2 : tyD df = "tuple"
                    · cases dc with
                      | tuple cs =>
                        cases df with
                        | tuple fs => exact absurd ⟨cs, fs, rfl, rfl⟩ hcf
                        | _ => simp [tyD] at c2
                      | _ => simp [tyD] at c1
                    · rw [decide_eq_false c2, Bool.not_false, Bool.or_true]
                  · rw [decide_eq_false c1, Bool.not_false, Bool.true_or]
                · exact s_ret ev_c fun H3 e3 => no (b := true) q rfl H3 ((e1.trans e2).trans e3)
        · have q : isTableD (.tuple ds) = false := Bool.eq_false_iff.mpr fun z => by
            obtain ⟨_, _, e⟩ := table_shape z
            cases e
            exact h2 rfl
          refine q_when (b := true) (et_or0 (et_is (et_no (et_B ei)) rfl) (et_is (et_test (ev_neI el ev_c)) (by rw [decide_eq_false fun z => h2 (by omega)] <;> rfl))) (fun _ H1 e1 => ?_) (fun z => nomatch z)
          exact s_ret ev_c fun H2 e2 => no (b := true) q rfl H2 (e1.trans e2)
    · have q : isTableD d = false := by
        cases d with
        | tuple ds => exact absurd ⟨ds, rfl⟩ ht
        | _ => rfl
      have q2 : decide (tyD d = "tuple") = false := by
        cases d with
        | tuple ds => exact absurd ⟨ds, rfl⟩ ht
        | _ => exact decide_eq_false (by simp [tyD])
      rw [q2] at ei
      refine q_when (b := true) (et_or1 (et_is (et_no (et_B ei)) rfl)) (fun _ H1 e1 => ?_) (fun z => nomatch z)
      exact s_ret ev_c fun H2 e2 => no (b := true) q rfl H2 (e1.trans e2)
end
end K01
set_option Elab.async false
set_option linter.all false
set_option maxRecDepth 100000
set_option maxHeartbeats 4000000
namespace Gd
open PySem PySem.Spec PyProof.Rows L2 Evl
/-- what is read in the one is read in the other -/
def Lk (H H' : Hp) : Prop := ∀ b u, Rd H b u → Rd H' b u
theorem Lk.of_ex {H H' : Hp} (e : Ex H H') : Lk H H' := fun b u h => ex_rd e h
theorem Lk.trans {H H1 H2 : Hp} (a : Lk H H1) (b : Lk H1 H2) : Lk H H2 := fun c u h => b c u (a c u h)
theorem Lk.lock {H : Hp} {a : Addr} {kvs : List (Key × V)} {o : Obj} (h : H a = some (.dK kvs)) : Lk H (L2.upd H a (.frz o (.dK kvs))) := fun b u r => by
  by_cases e : b = a
  · subst e
    rcases r with r | ⟨o', r⟩
    · rw [h] at r
      cases r
      exact .inr ⟨o, upd_same⟩
    · rw [h] at r
      cases r
  · rcases r with r | ⟨o', r⟩
    · exact .inl ((upd_ne e).trans r)
    · exact .inr ⟨o', (upd_ne e).trans r⟩
/-- unlocked again -/
theorem ex_unlock {H H' : Hp} {a : Addr} {u : HO} {o : Obj} (h : H a = some u) (e : Ex (L2.upd H a (.frz o u)) H') : Ex H (L2.upd H' a u) := fun b w hb => by
  by_cases q : b = a
  · subst q
    rw [h] at hb
    cases hb
    exact upd_same
  · rw [upd_ne q]
    exact e b w ((upd_ne q).trans hb)
section
variable {K : PySem.W.Frag} {σ : L2.St} {H H' : Hp} {ta tb te tl : TE} {t u : TT} {x y z v : V} {a : Addr} {xs ys : List V} {ds : List PyData} {D : Ends} {tz : TS}
theorem lk_l {xs : List V} (e : Lk H H') (h : SqL K H a xs) : SqL K H' a xs := h.elim (fun h => .inl (e _ _ h)) .inr
theorem lk_t {xs : List V} (e : Lk H H') (h : SqT K H a xs) : SqT K H' a xs := h.elim (fun h => .inl (e _ _ h)) .inr
mutual
theorem Dq.lkd (e : Lk H H') : ∀ (d : PyData) (v : V), Dq K H v d → Dq K H' v d
  | .none, _, h => by
    cases h
    exact .non
  | .bool b, _, h => by
    cases h
    exact .bl b
  | .int i, _, h => by
    cases h
    exact .int i
  | .str x, _, h => by
    cases h
    exact .str x
  | .list ds, _, h => by
    cases h with
    | lst hs r => exact .lst (e _ _ hs) (Dq.lkdAll e ds _ r)
  | .tuple ds, _, h => by
    cases h with
    | tup hs r => exact .tup (e _ _ hs) (Dq.lkdAll e ds _ r)
  | .dict ds, _, h => by
    cases h with
    | dct hs k r => exact .dct (e _ _ hs) k (Dq.lkdAll e (ds.map (·.2)) _ r)
  termination_by d => sizeOf d
  decreasing_by
    all_goals first
      | decreasing_tactic
      | (have q := size_snd ds
         simp only [PyData.dict.sizeOf_spec]
         omega)
theorem Dq.lkdAll (e : Lk H H') : ∀ (ds : List PyData) (vs : List V), DqAll K H vs ds → DqAll K H' vs ds
  | [], _, h => by
    cases h
    exact .nil
  | d :: ds, _, h => by
    cases h with
    | cons h r => exact .cons (Dq.lkd e d _ h) (Dq.lkdAll e ds _ r)
  termination_by ds => sizeOf ds
end
theorem ev_lenD {kvs : List (Key × V)} (ha : Ev ta σ H (.ref a)) (h : H a = some (.dK kvs)) : Ev (tCB (fun xs H Q => ∃ a kvs, xs = [V.ref a] ∧ H a = some (.dK kvs) ∧ Q (.int kvs.length) H) (tCons ta tNil)) σ H (.int (kvs.length : Int)) := fun H1 e Q q =>
  ha H1 e _ fun H2 e2 => ⟨a, kvs, rfl, (e.trans e2) _ _ h, q H2 e2⟩
theorem ev_dget {kvs : List (Key × V)} {k : Key} (ha : Ev ta σ H (.ref a)) (hb : Ev tb σ H (kV k)) (h : Rd H a (.dK kvs)) (hv : valV kvs k = some v) : Ev (tDGet ta tb) σ H v := fun H1 e Q q =>
  ha H1 e _ fun H2 e2 => hb H2 (e.trans e2) _ fun H3 e3 => ⟨a, v, rfl, .inl ⟨kvs, k, ex_rd ((e.trans e2).trans e3) h, rfl, hv.symm⟩, q H3 (e2.trans e3)⟩
theorem valV_at {kvs : List (Key × V)} : ∀ {i : Nat} {k : Key} {v : V}, (kvs.map (·.1)).Nodup → kvs[i]? = some (k, v) → valV kvs k = some v := by
  induction kvs with
  | nil => exact fun _ e => by simp at e
  | cons p r ih =>
    intro i k v nd e
    rw [List.map_cons, List.nodup_cons] at nd
    cases i with
    | zero =>
      cases e
      exact valV_pos rfl
    | succ i =>
      have e' : r[i]? = some (k, v) := e
      rw [valV_neg fun z => nd.1 (z ▸ List.mem_map.mpr ⟨(k, v), List.mem_of_getElem? e', rfl⟩)]
      exact ih nd.2 e'
theorem keyD_q (k : Key) : Dq K H (kV k) (keyD k) := by
  cases k with
  | inl i => exact .int i
  | inr x => exact .str x
/-- [e for k in d], d a dict that is locked meanwhile, by the keys' values -/
theorem el_lcD {j : Nat} {vs : List Nat} {kvs : List (Key × V)} (vals : List V) (h : ∀ o, Ev tl σ (L2.upd H a (.frz o (.dK kvs))) (.ref a)) (hx : H a = some (.dK kvs)) (hl : vals.length = kvs.length) (hz : kvs.length ≤ 40000) (hw : ∀ x, wipe ((wipe σ vs).set j (some x)) vs = wipe σ vs)
    (he : ∀ (i : Nat) (k : Key) (x y : V) (o : Obj) H1, Ex (L2.upd H a (.frz o (.dK kvs))) H1 → kvs[i]? = some (k, x) → vals[i]? = some y → Ev te ((wipe σ vs).set j (some (kV k))) H1 y) : EvL (tLockE (tLc (iKeys tl) (gName j) tYes te vs)) σ H vals := fun H0 e Q q =>
  ⟨a, .dK kvs, e _ _ hx, True.intro, fun o => by
    have e0 : Ex (L2.upd H a (.frz o (.dK kvs))) (L2.upd H0 a (.frz o (.dK kvs))) := fun b w hb => by
      by_cases c : b = a
      · subst c
        rw [upd_same] at hb ⊢
        exact hb
      · rw [upd_ne c] at hb ⊢
        exact e b w hb
    refine h o _ e0 _ fun H1 e1 => ⟨a, o, rfl, .inl ⟨kvs, e1 _ _ upd_same, fun Dl hD => ?_⟩⟩
    refine lc_it walk_keys (Lw H1 vals Dl) ⟨hD, Ex.new hD, upd_same⟩ (fun i H' _ p => p.2.1 _ _ (e1 _ _ upd_same)) (fun i x H' H'' hi p y => ?_) fun H' p => ⟨p.2.1 _ _ (e1 _ _ upd_same), ?_⟩
    · obtain ⟨rfl, k, v, hk, rfl⟩ := y
      have hi' : i < vals.length := by rw [hl]; exact hi
      exact ⟨hw _, lw_turn p (List.getElem?_eq_getElem hi') (by omega) (he i k v _ o H1 (e0.trans e1) hk (List.getElem?_eq_getElem hi'))⟩
    · have nD : Dl ≠ a := fun z => by
        have w := e1 a _ upd_same
        rw [z] at hD
        rw [hD] at w
        cases w
      have nH0 : H0 Dl = none := by
        cases w : H0 Dl with
        | none => rfl
        | some u =>
          have w2 := e1 Dl u ((upd_ne nD).trans w)
          rw [p.1] at w2
          cases w2
      refine q Dl _ nH0 (ex_unlock (e _ _ hx) (e1.trans p.2.1)) ?_
      rw [upd_ne nD, p.2.2, ← hl, List.take_length]⟩
end
end Gd
set_option Elab.async false
set_option linter.all false
set_option maxRecDepth 100000
set_option maxHeartbeats 4000000
namespace K01
open PySem PySem.Spec PyProof.Rows L2 Gd Evl
def isPlanD : PyData → Bool
  | .dict ds => decide (1 ≤ ds.length) && decide (ds.length ≤ 4) && ds.all fun p => isNameD p.1 && isTableD p.2
  | _ => false
/-- as spB, of data that, if it is a dict, is not locked and has each key once -/
def spT (K : PySem.W.Frag) (f : PyData → Bool) : Sp := fun vs H Q _ => ∃ v d, vs = [v] ∧ Dq K H v d ∧ small d = true ∧ (∀ ds, d = .dict ds → (ds.map (·.1)).Nodup ∧ ∃ a kvs, v = .ref a ∧ H a = some (.dK kvs)) ∧ ∀ H', Ex H H' → Q (.bl (f d)) H'
theorem small_kv {ds : List (PyData × PyData)} (h : smallKv ds = true) : ∀ p ∈ ds, small p.1 = true ∧ small p.2 = true := by
  induction ds with
  | nil => exact fun d m => absurd m List.not_mem_nil
  | cons d ds ih =>
    obtain ⟨a, b⟩ := d
    rw [smallKv, Bool.and_eq_true, Bool.and_eq_true] at h
    intro e m
    rcases List.mem_cons.mp m with rfl | m
    · exact h.1
    · exact ih h.2 e m
theorem keyD_inj : ∀ {a b : Key}, keyD a = keyD b → a = b
  | .inl _, .inl _, h => by
    cases h
    rfl
  | .inr _, .inr _, h => by
    cases h
    rfl
  | .inl _, .inr _, h => by cases h
  | .inr _, .inl _, h => by cases h
theorem keys_nodup {ds : List (PyData × PyData)} {kvs : List (Key × V)} (hk : ds.map (·.1) = kvs.map fun p => keyD p.1) (nd : (ds.map (·.1)).Nodup) : (kvs.map (·.1)).Nodup := by
  rw [hk] at nd
  have e : (kvs.map fun p => keyD p.1) = (kvs.map (·.1)).map keyD := by rw [List.map_map] <;> rfl
  rw [e] at nd
  exact List.Pairwise.of_map keyD (fun a b h z => h (congrArg keyD z)) nd
section
variable {P : Program} {w : World} {K : PySem.W.Frag} {mg : Str → Option Value} {base : Heap} {f fN fC fT : Addr} {fd fdN fdC fdT : FuncData}
theorem scAreTables : FnScope ["thing", "table"] ["thing"] (defScope sAreTables) := ⟨rfl, rfl, rfl, by decide +kernel, rfl, by decide +kernel, by decide +kernel⟩
theorem ok_aretables (T : TbT K mg fN fC fT) (FN : FnP K "is_name" sIsName fN fdN) (FC : FnP K "_is_column" sIsColumn fC fdC) (FT : FnP K "_is_table" sIsTable fT fdT) (F : FnP K "_are_tables" sAreTables f fd) : FnOk P w K mg base CX0 4 f fd ["thing"] (spT K isPlanD) := by
  have GN : FnOk P w K mg base CX0 1 fN fdN ["thing"] (spB K isNameD) := ok_isname T.nm FN
  have GT : FnOk P w K mg base CX0 3 fT fdT ["thing"] (spB K isTableD) := ok_istab T FN FC FT
  have bN : Binds K fdN ["thing"] [] := FN.bindsN fun _ _ _ _ _ _ us hl => match us, hl with | [_], _ => rfl
  have bT : Binds K fdT ["thing"] [] := FT.bindsN fun _ _ _ _ _ _ us hl => match us, hl with | [_], _ => rfl
  obtain ⟨t1, gM⟩ := T.mT
  refine F.ok scAreTables (fun vs H Q E h => ?_) (fun cdv A outer s H vs Q E hr h => ⟨_, PSs.nox (pss_cons (ps_if (PW.pt (pw_or (pt_not (pt_val (pe_callB call_isi (by rfl) T.nm.isi (by decide +kernel) (pa_cons (pv 0) (pa_cons (pe_bltn (v := .ty "dict") (by rfl) T.dict (by decide +kernel) rfl) pa_nil)))))
      (pw_or1 (pt_not (pt_chain op_le op_le pe_int (pe_callB call_lenD (by rfl) T.nm.len PySem.boot_len (pa_cons (pv 0) pa_nil)) (pe_glob (v := .int 4) rfl gM ⟨_, rfl⟩)))))) (pss_one (ps_ret pe_bl)) pss_nil)
    (pss_one (ps_ret (pe_callB (cr_all rfl) (by rfl) T.nm.all (by decide +kernel) (pa_cons (pe_lock (pe_lc (own := [("table", 1)]) (g := gName 1) (tt := tYes) rfl scAreTables.nd (pi_keys (pv 0)) (blkOk_by (N := ["thing", "table"]) (sc := defScope sAreTables) (by decide +kernel)) (fun _ _ _ _ _ => pg_name (i := 1) scAreTables.nd rfl (Or.inl rfl)) (fun _ _ _ _ _ => pts_nil)
          (fun _ _ _ _ _ => pe_and (pe_call GN (hr.mono (by decide)) rfl T.gN FN.kp bN .nil pass0 (pa_cons (pv 1) pa_nil)) (pe_one (pe_call GT hr rfl T.gT FT.kp bT .nil pass0 (pa_cons (pe_dget (hu_of hr) (pv 0) (pv 1) (fun _ _ => rfl)) pa_nil)))))) pa_nil))))), ?_⟩)
  · obtain ⟨v, d, rfl, _⟩ := h
    rfl
  · obtain ⟨v, d, rfl, hd, hs, open_, k⟩ := h
    have ei : Ev (tCB (rIsi K) (tCons (tVar 0) (tCons (tC (.ty "dict")) tNil))) (L2.start ["thing", "table"] [v]) H (.bl (decide (tyD d = "dict"))) := ev_isi (ev_var rfl) hd
    by_cases ht : ∃ ds, d = .dict ds
    · obtain ⟨ds, rfl⟩ := ht
      obtain ⟨nd, a, kvs, rfl, ha⟩ := open_ ds rfl
      have e0 : (L2.start ["thing", "table"] [V.ref a])[0]? = some (some (.ref a)) := rfl
      cases hd with
      | @dct _ kvs' _ hr' hk r =>
        obtain rfl : kvs' = kvs := by
          rcases hr' with z | ⟨o, z⟩
          · rw [ha] at z
            cases z
            rfl
          · rw [ha] at z
            cases z
        have hl : kvs'.length = ds.length := by
          have := congrArg List.length hk
          rw [List.length_map, List.length_map] at this
          exact this.symm
        obtain ⟨zl, sk0⟩ : ds.length ≤ 1000 ∧ smallKv ds = true := by simpa [small] using hs
        have sk := small_kv sk0
        have ndk := keys_nodup hk nd
        have el := ev_lenD (ev_var (H := H) e0) ha
        rw [hl] at el
        have isP : isPlanD (.dict ds) = (decide (1 ≤ ds.length) && decide (ds.length ≤ 4) && ds.all fun p => isNameD p.1 && isTableD p.2) := rfl
        refine q_when (b := !(decide ((1 : Int) ≤ (ds.length : Int)) && decide ((ds.length : Int) ≤ 4))) (et_or0 (et_is (et_no (et_B ei)) rfl) (et_no (et_le2 ev_c el ev_c))) (fun hb H1 e1 => ?_) fun hb H1 e1 => ?_
        · refine s_ret ev_c fun H2 e2 => ?_
          have z := k H2 (e1.trans e2)
          have q : (decide (1 ≤ ds.length) && decide (ds.length ≤ 4)) = false := by
            rw [Bool.not_eq_true'] at hb
            rw [← hb]
            congr 1 <;> exact decide_eq_decide.mpr (by omega)
          rw [isP, q] at z
          exact z
        · have q : (decide (1 ≤ ds.length) && decide (ds.length ≤ 4)) = true := by
            rw [Bool.not_eq_false'] at hb
            rw [← hb]
            congr 1 <;> exact decide_eq_decide.mpr (by omega)
          have ha1 := e1 _ _ ha
          have c := ev_allN (K := K) (bs := ds.map fun p => isNameD p.1 && isTableD p.2) (el_lcD (H := H1) (a := a) (tl := tVar 0) (j := 1) (vs := [1]) (te := tAndV (tCall (spB K isNameD) [] E0 (tCons (tVar 1) tNil)) (tCall (spB K isTableD) [] E0 (tCons (tDGet (tVar 0) (tVar 1)) tNil))) ((ds.map fun p => isNameD p.1 && isTableD p.2).map V.bl)
            (fun o => ev_var e0) ha1 (by rw [List.length_map, List.length_map, hl]) (by rw [hl]; omega) (fun _ => rfl) fun i kk x y o H2 e2 hx hy => by
              have hi : i < ds.length := by rw [← hl]; exact (List.getElem?_eq_some_iff.mp hx).1
              have e12 : Lk H H2 := (Lk.of_ex e1).trans ((Lk.lock ha1).trans (Lk.of_ex e2))
              rw [List.map_map, List.getElem?_map, List.getElem?_eq_getElem hi] at hy
              cases hy
              have k1 : keyD kk = ds[i].1 := by
                have z := congrArg (fun l => l[i]?) hk
                simp only [List.getElem?_map] at z
                rw [hx, List.getElem?_eq_getElem hi] at z
                exact (Option.some.inj z).symm
              obtain ⟨x', ex', hD⟩ := r.get i ds[i].2 (by rw [List.getElem?_map, List.getElem?_eq_getElem hi] <;> rfl)
              rw [List.getElem?_map, hx] at ex'
              cases ex'
              have sm := sk ds[i] (List.getElem_mem hi)
              have kd : Dq K H2 (kV kk) ds[i].1 := k1 ▸ keyD_q kk
              exact ev_and2 (ev_call (ea_cons (ev_var rfl) ea_nil) (spv kd sm.1)) (ev_call (ea_cons (ev_dget (ev_var rfl) (ev_var rfl) (.inr ⟨o, e2 _ _ upd_same⟩) (valV_at ndk hx)) ea_nil) (spv (Dq.lkd e12 _ _ hD) sm.2)))
          refine s_ret c fun H2 e2 => ?_
          have z := k H2 (e1.trans e2)
          rw [isP, q, Bool.true_and] at z
          rw [List.all_map]
          exact z
    · have q : isPlanD d = false := by
        cases d with
        | dict ds => exact absurd ⟨ds, rfl⟩ ht
        | _ => rfl
      have q2 : decide (tyD d = "dict") = false := by
        cases d with
        | dict ds => exact absurd ⟨ds, rfl⟩ ht
        | _ => exact decide_eq_false (by simp [tyD])
      rw [q2] at ei
      refine q_when (b := true) (et_or1 (et_is (et_no (et_B ei)) rfl)) (fun _ H1 e1 => ?_) (fun z => nomatch z)
      refine s_ret ev_c fun H2 e2 => ?_
      have z := k H2 (e1.trans e2)
      rw [q] at z
      exact z
end
end K01
set_option Elab.async false
set_option linter.all false
set_option maxRecDepth 100000
set_option maxHeartbeats 4000000
namespace K01
open PySem PySem.Spec PyProof.Rows L2
/-! ### the pen: [cells, count, rest] -/
def PenH (H : Hp) (p a : Addr) (ns : List Int) (i d : Int) : Prop := H p = some (.lst [.ref a, .int i, .int d]) ∧ H a = some (.lst (ns.map V.int)) ∧ ns.length ≤ 60 ∧ 0 ≤ i
/-- all but p is as it was -/
def But (p : Addr) (H H' : Hp) : Prop := ∀ b o, b ≠ p → H b = some o → H' b = some o
theorem But.refl {p : Addr} (H : Hp) : But p H H := fun _ _ _ e => e
theorem But.trans {p : Addr} {H H1 H2 : Hp} (a : But p H H1) (b : But p H1 H2) : But p H H2 := fun c o h e => b c o h (a c o h e)
theorem But.set {p : Addr} {H : Hp} {o : HO} : But p H (L2.upd H p o) := fun b u h e => by rw [upd_ne h]; exact e
theorem But.new {p q : Addr} {H : Hp} {o : HO} (n : H q = none) : But p H (L2.upd H q o) := fun b u _ e => by rw [upd_ne (ne_of_none e n)]; exact e
def spPen (K : PySem.W.Frag) : Sp := fun vs H Q _ => ∃ (s : Addr) (ns : List Int), vs = [.ref s] ∧ SqL K H s (ns.map V.int) ∧
  ∀ (p a : Addr) (ms : List Int) (H' : Hp), H p = none → PenH H' p a ms 0 0 → Same H H' → Q (.ref p) H'
def spNext : Sp := fun vs H Q _ => ∃ (p a : Addr) (ns : List Int) (i d : Int), vs = [.ref p] ∧ PenH H p a ns i d ∧ i < 2 ^ 40 ∧
  ∀ (z : Int) (H' : Hp), PenH H' p a ns (i + 1) d → But p H H' → Q (.int z) H'
def spDraw : Sp := fun vs H Q _ => ∃ (p a : Addr) (ns : List Int) (i d u : Int), vs = [.ref p, .int u] ∧ PenH H p a ns i d ∧ i < 2 ^ 40 ∧ 1 ≤ u ∧ u < 1000000 ∧
  ∀ (g i' d' : Int) (H' : Hp), 0 ≤ g → g < u → i ≤ i' → i' ≤ i + 1 → PenH H' p a ns i' d' → But p H H' → Q (.int g) H'
structure PenT (mg : Str → Option Value) (fN : Addr) : Prop where
  gN : mg "_law_next" = some (.ref fN)
  len : mg "len" = none
  list : mg "list" = none
  int : mg "int" = none
/-- a statement, then the rest, with a word between them -/
def tCut (t u : TS) : TS := fun D σ H => ∃ Mid : L2.St → Hp → Prop, t { D with nx := Mid } σ H ∧ ∀ σ' H', Mid σ' H' → u D σ' H'
theorem pss_cut {X : Cx} {st : Stmt} {rest : List Stmt} {t u : TS} (h1 : PS X st t) (h2 : PSs X rest u) : PSs X (st :: rest) (tCut t u) := by
  refine ⟨fun pins s σ H D I h => ?_⟩
  obtain ⟨Mid, hm, hu⟩ := h
  refine wpAny_execs_cons (thn (h1.run pins s σ H { D with nx := Mid } I hm) fun f s1 q => ?_)
  cases f with
  | next =>
    obtain ⟨σ', H', I', q⟩ := q
    exact h2.run pins s1 σ' H' D I' (hu σ' H' q)
  | ret v => exact q
  | brk => exact q
  | cont => exact q
theorem pen_ne {ns : List Int} {a : Addr} {i d : Int} (h : some (HO.lst [.ref a, .int i, .int d]) = some (.lst (ns.map V.int))) : False := by
  cases ns with
  | nil => cases h
  | cons n r => cases h
theorem dp_ints (K : PySem.W.Frag) (H : Hp) : ∀ ns : List Int, DpAll K H (ns.map V.int) (ns.map PyData.int)
  | [] => .nil
  | n :: r => .cons (.int n) (dp_ints K H r)
theorem shaped_ints (ns : List Int) : SeqAt.shaped (.list (ns.map PyData.int)) = true := by
  induction ns with
  | nil => rfl
  | cons n r ih => exact ih
theorem fmA (x : Int) : -(2 ^ 64) < x.fmod 2147483587 ∧ x.fmod 2147483587 < 2 ^ 64 := by
  rw [Int.fmod_eq_emod_of_nonneg _ (by omega)]
  omega
theorem fmB (x : Int) : -(2 ^ 64) < x.fmod 2147483563 ∧ x.fmod 2147483563 < 2 ^ 64 := by
  rw [Int.fmod_eq_emod_of_nonneg _ (by omega)]
  omega
section
variable {P : Program} {w : World} {K : PySem.W.Frag} {mg : Str → Option Value} {base : Heap} {f fN : Addr} {fd fdN : FuncData}
theorem scPen : FnScope ["script"] ["script"] (defScope sPen) := ⟨rfl, rfl, rfl, by decide +kernel, rfl, by decide +kernel, by decide +kernel⟩
theorem ok_pen (T : PenT mg fN) (F : FnP K "_law_pen" sPen f fd) : FnOk P w K mg base CX0 1 f fd ["script"] (spPen K) := by
  refine F.ok scPen (fun vs H Q E h => ?_) (fun cdv A outer s H vs Q E hr h => ⟨_, PSs.nox (pss_one (ps_ret (pe_lst (pa_cons (pe_callTy call_list_of (by rfl) T.list (by decide +kernel) (pa_cons (pe_slice sl_list (pv 0) po_none (po_some pe_int)) pa_nil)) (pa_cons pe_int (pa_cons pe_int pa_nil)))))), ?_⟩)
  · obtain ⟨s, ns, rfl, _⟩ := h
    rfl
  · obtain ⟨s, ns, rfl, hS, k⟩ := h
    refine ⟨_, rfl, 60, rfl, s, _, rfl, hS, fun p0 n0 => ?_⟩
    refine ⟨p0, _, rfl, .inl (SqL.of upd_same), fun l hl => ?_⟩
    refine ⟨by show 3 ≤ sizeLine; decide, fun p hp => ?_⟩
    have nl : l ≠ p0 := fun e => by rw [e, upd_same] at hl; cases hl
    rw [upd_ne nl] at hl
    have npl : p ≠ l := fun e => by rw [e, upd_same] at hp; cases hp
    rw [upd_ne npl] at hp
    have np0 : p ≠ p0 := fun e => by rw [e, upd_same] at hp; cases hp
    rw [upd_ne np0] at hp
    have h60 : HT.sIx (ns.map V.int).length (ns.map V.int).length (some 60) ≤ 60 := by
      show (if (60 : Int) < 0 then ((60 : Int) + ((ns.map V.int).length : Int)).toNat else min (60 : Int).toNat (ns.map V.int).length) ≤ 60
      rw [if_neg (by decide)]
      exact Nat.min_le_left _ _
    refine k p l (((ns.drop (HT.sIx (ns.map V.int).length 0 none)).take (HT.sIx (ns.map V.int).length (ns.map V.int).length (some 60) - HT.sIx (ns.map V.int).length 0 none))) _ hp ⟨upd_same, ?_, ?_, Int.le_refl 0⟩ ?_
    · rw [upd_ne npl.symm, upd_same, List.map_take, List.map_drop]
      rfl
    · rw [List.length_take]
      omega
    · intro b o e
      rw [upd_ne (ne_of_none e hp), upd_ne (ne_of_none e hl), upd_ne (ne_of_none e n0)]
      exact e
theorem scNext : FnScope ["pen", "index", "cell_here", "some", "more", "high"] ["pen"] (defScope sNext) := ⟨rfl, rfl, rfl, by decide +kernel, rfl, by decide +kernel, by decide +kernel⟩
theorem ok_next (T : PenT mg fN) (F : FnP K "_law_next" sNext f fd) : FnOk P w K mg base CX0 1 f fd ["pen"] spNext := by
  refine F.ok scNext (fun vs H Q E h => ?_) (fun cdv A outer s H vs Q E hr h => ⟨_, PSs.nox (pss_cons (ps_set (i := 1) scNext.nd rfl (Or.inl rfl) (pe_ix ix_list (pv 0) pe_int (fun _ _ => rfl)))
    (pss_cons (ps_asg (pe_op op_add (pv 1) pe_int) (pg_sub (pv 0) pe_int set_list))
    (pss_cons (ps_set (i := 2) scNext.nd rfl (Or.inl rfl) (pe_op op_add (pe_op op_mul (pv 1) pe_int) pe_int))
    (pss_cut (ps_if (pt_cmpR (op_neD hr.units) (pe_ix ix_list (pv 0) pe_int (fun _ _ => rfl)) (pe_lst pa_nil) (nomark _))
      (pss_one (ps_set (i := 2) scNext.nd rfl (Or.inl rfl) (pe_ix ix_list (pe_ix ix_list (pv 0) pe_int (fun _ _ => rfl)) (pe_op op_modN (pe_callTy call_int1 (by rfl) T.int (by decide +kernel) (pa_cons (pv 1) pa_nil)) (pe_callB call_len_seq (by rfl) T.len PySem.boot_len (pa_cons (pe_ix ix_list (pv 0) pe_int (fun _ _ => rfl)) pa_nil))) (fun _ _ => rfl)))) pss_nil)
    (pss_cut (ps_if (PW.pt (pw_and (pt_cmpR op_lt (pv 1) (pe_callB call_len_seq (by rfl) T.len PySem.boot_len (pa_cons (pe_ix ix_list (pv 0) pe_int (fun _ _ => rfl)) pa_nil)) (nomark _)) (pw_and1 (pt_cmpR op_ge (pv 2) (pe_op op_pow pe_int pe_int) (nomark _)))))
      (pss_one (ps_ret (pv 2))) pss_nil)
    (pss_cons (ps_set (i := 3) scNext.nd rfl (Or.inl rfl) (pe_op op_modN (pe_callTy call_int1 (by rfl) T.int (by decide +kernel) (pa_cons (pe_op op_add (pe_op op_add (pe_op op_modN (pe_callTy call_int1 (by rfl) T.int (by decide +kernel) (pa_cons (pv 2) pa_nil)) pe_int) (pe_op op_mul (pv 1) pe_int)) pe_int) pa_nil)) pe_int))
    (pss_cons (ps_set (i := 4) scNext.nd rfl (Or.inl rfl) (pe_op op_modN (pe_callTy call_int1 (by rfl) T.int (by decide +kernel) (pa_cons (pe_op op_add (pe_op op_add (pe_op op_mul (pv 3) (pv 3)) (pe_op op_mul (pv 1) pe_int)) pe_int) pa_nil)) pe_int))
    (pss_cons (ps_set (i := 5) scNext.nd rfl (Or.inl rfl) (pe_op op_modN (pe_callTy call_int1 (by rfl) T.int (by decide +kernel) (pa_cons (pe_op op_add (pe_op op_add (pe_op op_mul (pv 4) (pv 4)) (pv 3)) (pe_op op_mul (pe_op op_mul (pv 1) (pv 1)) pe_int)) pa_nil)) pe_int))
    (pss_one (ps_ret (pe_op op_add (pe_op op_mul (pe_op op_add (pe_op op_mul (pv 5) pe_int) (pv 4)) pe_int) (pv 3)))))))))))), ?_⟩)
  · obtain ⟨p, a, ns, i, d, rfl, _⟩ := h
    rfl
  · obtain ⟨p, a, ns, i, d, rfl, ⟨hp, ha, hl, h0⟩, hi, k⟩ := h
    refine ⟨_, rfl, p, _, 1, .int i, rfl, rfl, SqL.of hp, at_of (j := 1) rfl rfl, ?_⟩
    refine ⟨_, rfl, i, 1, rfl, rfl, _, rfl, p, _, 1, 1, rfl, rfl, hp, rfl, ?_⟩
    refine ⟨_, rfl, i, 1051, rfl, rfl, .inr ⟨by decide, by decide⟩, i * 1051, 53, rfl, rfl, ?_⟩
    have nap : a ≠ p := fun e => by rw [e, hp] at ha; exact pen_ne ha
    have hp1 : (upd H p (.lst [.ref a, .int (i + 1), .int d])) p = some (.lst [.ref a, .int (i + 1), .int d]) := upd_same
    have ha1 : (upd H p (.lst [.ref a, .int (i + 1), .int d])) a = some (.lst (ns.map V.int)) := by rw [upd_ne nap]; exact ha
    have b1 : But p H (upd H p (.lst [.ref a, .int (i + 1), .int d])) := But.set
    refine ⟨fun σ' H' => ∃ c : Int, σ' = [some (.ref p), some (.int i), some (.int c), none, none, none] ∧ H' p = some (.lst [.ref a, .int (i + 1), .int d]) ∧ H' a = some (.lst (ns.map V.int)) ∧ But p H H', ?_, ?_⟩
    · refine ⟨_, rfl, p, _, 0, .ref a, rfl, rfl, SqL.of hp1, at_of (j := 0) rfl rfl, ?_⟩
      refine ⟨by show 0 ≤ sizeLine; decide, fun q hq => ?_⟩
      have nqp : p ≠ q := ne_of_none hp1 hq
      have nqa : a ≠ q := ne_of_none ha1 hq
      refine ⟨.list (ns.map PyData.int), .list [], .lst (SqL.of (by rw [upd_ne nqa]; exact ha1)) (dp_ints _ _ ns), .lst (SqL.of upd_same) .nil, shaped_ints ns, rfl, _, rfl, ?_⟩
      have b2 : But p H (upd (upd H p (.lst [.ref a, .int (i + 1), .int d])) q (.lst [])) := b1.trans (But.new hq)
      cases ns with
      | nil => exact ⟨_, rfl, by rw [upd_ne nqp]; exact hp1, by rw [upd_ne nqa]; exact ha1, b2⟩
      | cons n r =>
        refine ⟨_, rfl, p, _, 0, .ref a, rfl, rfl, SqL.of (by rw [upd_ne nqp]; exact hp1), at_of (j := 0) rfl rfl, ?_⟩
        have nz : (((n :: r).map V.int).length : Int) ≠ 0 := by simp only [List.length_map, List.length_cons]; omega
        have hm0 : 0 ≤ i.fmod (((n :: r).map V.int).length : Int) := by rw [Int.fmod_eq_emod_of_nonneg _ (by omega)]; exact Int.emod_nonneg _ nz
        have hm1 : i.fmod (((n :: r).map V.int).length : Int) < (((n :: r).map V.int).length : Int) := by rw [Int.fmod_eq_emod_of_nonneg _ (by omega)]; exact Int.emod_lt_of_pos _ (by omega)
        obtain ⟨j, ej⟩ : ∃ j : Nat, i.fmod (((n :: r).map V.int).length : Int) = (j : Int) := ⟨(i.fmod (((n :: r).map V.int).length : Int)).toNat, by omega⟩
        have hj : j < (n :: r).length := by rw [ej] at hm1; rw [List.length_map] at hm1; omega
        refine ⟨_, rfl, .inl ⟨i, rfl, _, rfl, p, _, 0, .ref a, rfl, rfl, SqL.of (by rw [upd_ne nqp]; exact hp1), at_of (j := 0) rfl rfl, a, _, rfl, .inl (SqL.of (by rw [upd_ne nqa]; exact ha1)), _, _, rfl, rfl, nz, a, _, _, .int ((n :: r)[j]), rfl, rfl, SqL.of (by rw [upd_ne nqa]; exact ha1), at_of ej (by rw [List.getElem?_map, List.getElem?_eq_getElem hj]; rfl), ?_⟩⟩
        exact ⟨_, rfl, by rw [upd_ne nqp]; exact hp1, by rw [upd_ne nqa]; exact ha1, b2⟩
    · rintro σ' H' ⟨c, rfl, hp', ha', b'⟩
      refine ⟨fun σ2 H2 => σ2 = [some (.ref p), some (.int i), some (.int c), none, none, none] ∧ H2 = H', ?_, ?_⟩
      · refine ⟨_, rfl, _, rfl, p, _, 0, .ref a, rfl, rfl, SqL.of hp', at_of (j := 0) rfl rfl, a, _, rfl, .inl (SqL.of ha'), i, _, rfl, rfl, _, rfl, ?_⟩
        refine ite2 (fun _ => ?_) (fun _ => iteF ⟨rfl, rfl⟩)
        refine ⟨_, rfl, 10, 18, rfl, rfl, ⟨by decide, by decide, by decide⟩, c, _, rfl, rfl, _, rfl, ?_⟩
        refine ite2 (fun _ => ?_) (fun _ => ⟨rfl, rfl⟩)
        exact ⟨_, rfl, k c H' ⟨hp', ha', hl, by omega⟩ b'⟩
      · rintro σ2 H2 ⟨rfl, rfl⟩
        refine ⟨_, rfl, .inl ⟨c, rfl, c, 2147483587, rfl, rfl, (by decide : (2147483587 : Int) ≠ 0), _, rfl, i, 30103, rfl, rfl, .inr ⟨by decide, by decide⟩, _, _, rfl, rfl, _, 79, rfl, rfl, .inl ⟨_, rfl, _, 2147483587, rfl, rfl, (by decide : (2147483587 : Int) ≠ 0), ?_⟩⟩⟩
        refine ⟨_, rfl, _, rfl, _, _, rfl, rfl, .inl (fmA _), _, rfl, i, 70039, rfl, rfl, .inr ⟨by decide, by decide⟩, _, _, rfl, rfl, _, 61, rfl, rfl, .inl ⟨_, rfl, _, 2147483563, rfl, rfl, (by decide : (2147483563 : Int) ≠ 0), ?_⟩⟩
        refine ⟨_, rfl, _, rfl, _, _, rfl, rfl, .inl (fmB _), _, rfl, _, _, rfl, rfl, _, rfl, _, rfl, i, i, rfl, rfl, .inl ⟨by omega, by omega⟩, _, 37, rfl, rfl, .inr ⟨by decide, by decide⟩, _, _, rfl, rfl, .inl ⟨_, rfl, _, 2147483549, rfl, rfl, (by decide : (2147483549 : Int) ≠ 0), ?_⟩⟩
        refine ⟨_, rfl, _, 2147483587, rfl, rfl, .inr ⟨by decide, by decide⟩, _, rfl, _, _, rfl, rfl, _, 2147483563, rfl, rfl, .inr ⟨by decide, by decide⟩, _, rfl, _, _, rfl, rfl, ?_⟩
        exact k _ _ ⟨hp', ha', hl, by omega⟩ b'
theorem scDraw : FnScope ["pen", "under", "digit"] ["pen", "under"] (defScope sDraw) := ⟨rfl, rfl, rfl, by decide +kernel, rfl, by decide +kernel, by decide +kernel⟩
theorem ok_draw (T : PenT mg fN) (FN : FnP K "_law_next" sNext fN fdN) (F : FnP K "_law_draw" sDraw f fd) : FnOk P w K mg base CX0 2 f fd ["pen", "under"] spDraw := by
  have GN : FnOk P w K mg base CX0 1 fN fdN ["pen"] spNext := ok_next T FN
  have bN : Binds K fdN ["pen"] [] := FN.bindsN fun _ _ _ _ _ _ us hl => match us, hl with | [_], _ => rfl
  refine F.ok scDraw (fun vs H Q E h => ?_) (fun cdv A outer s H vs Q E hr h => ⟨_, PSs.nox (pss_cut (ps_if (pt_cmpR op_lt (pe_ix ix_list (pv 0) pe_int (fun _ _ => rfl)) (pv 1) (nomark _))
      (pss_one (ps_asg (pe_call GN hr rfl T.gN FN.kp bN .nil pass0 (pa_cons (pv 0) pa_nil)) (pg_sub (pv 0) pe_int set_list))) pss_nil)
    (pss_cons (ps_set (i := 2) scDraw.nd rfl (Or.inl rfl) (pe_op op_modN (pe_callTy call_int1 (by rfl) T.int (by decide +kernel) (pa_cons (pe_ix ix_list (pv 0) pe_int (fun _ _ => rfl)) pa_nil)) (pv 1)))
    (pss_cons (ps_asg (pe_op op_fdivN (pe_ix ix_list (pv 0) pe_int (fun _ _ => rfl)) (pv 1)) (pg_sub (pv 0) pe_int set_list))
    (pss_one (ps_ret (pv 2)))))), ?_⟩)
  · obtain ⟨p, a, ns, i, d, u, rfl, _⟩ := h
    rfl
  · obtain ⟨p, a, ns, i, d, u, rfl, hP, hi, u1, u2, k⟩ := h
    have hP' := hP
    obtain ⟨hp, ha, hl, h0⟩ := hP'
    refine ⟨fun σ' H' => ∃ (i' d' : Int), σ' = [some (.ref p), some (.int u), none] ∧ i ≤ i' ∧ i' ≤ i + 1 ∧ PenH H' p a ns i' d' ∧ But p H H', ?_, ?_⟩
    · refine ⟨_, rfl, p, _, 2, .int d, rfl, rfl, SqL.of hp, at_of (j := 2) rfl rfl, _, rfl, d, u, rfl, rfl, _, rfl, ?_⟩
      refine ite2 (fun _ => ?_) (fun _ => ⟨i, d, rfl, by omega, by omega, hP, But.refl H⟩)
      refine ⟨_, rfl, p, a, ns, i, d, rfl, hP, hi, fun z H1 h1 b1 => ?_⟩
      obtain ⟨hp1, ha1, hl1, h01⟩ := h1
      have nap : a ≠ p := fun e => by rw [e, hp1] at ha1; exact pen_ne ha1
      refine ⟨_, rfl, p, _, 2, 2, rfl, rfl, hp1, rfl, ?_⟩
      exact ⟨i + 1, z, rfl, by omega, by omega, ⟨upd_same, by rw [upd_ne nap]; exact ha1, hl1, h01⟩, b1.trans But.set⟩
    · rintro σ' H' ⟨i', d', rfl, hi1, hi2, ⟨hp', ha', hl', h0'⟩, b'⟩
      have nap : a ≠ p := fun e => by rw [e, hp'] at ha'; exact pen_ne ha'
      have g0 : 0 ≤ d'.fmod u := by rw [Int.fmod_eq_emod_of_nonneg _ (by omega)]; exact Int.emod_nonneg _ (by omega)
      have g1 : d'.fmod u < u := by rw [Int.fmod_eq_emod_of_nonneg _ (by omega)]; exact Int.emod_lt_of_pos _ (by omega)
      refine ⟨_, rfl, p, _, 2, .int d', rfl, rfl, SqL.of hp', at_of (j := 2) rfl rfl, .inl ⟨d', rfl, _, rfl, d', u, rfl, rfl, by omega, ?_⟩⟩
      refine ⟨_, rfl, p, _, 2, .int d', rfl, rfl, SqL.of hp', at_of (j := 2) rfl rfl, _, rfl, d', u, rfl, rfl, ⟨by omega, by omega⟩, _, rfl, p, _, 2, 2, rfl, rfl, hp', rfl, ?_⟩
      exact ⟨_, rfl, k _ i' _ _ g0 g1 hi1 hi2 ⟨upd_same, by rw [upd_ne nap]; exact ha', hl', h0'⟩ (b'.trans But.set)⟩
end
end K01
set_option Elab.async false
set_option linter.all false
set_option maxRecDepth 100000
set_option maxHeartbeats 4000000
namespace K01
open PySem PySem.Spec PyProof.Rows L2 Gd Evl
/-- a name is told; the pen goes on by at most nine -/
def spName : Sp := fun vs H Q _ => ∃ (p a : Addr) (ns : List Int) (i d : Int), vs = [.ref p] ∧ PenH H p a ns i d ∧ i < 2 ^ 39 ∧
  ∀ (x : Str) (i' d' : Int) (H' : Hp), isNameS x = true → i ≤ i' → i' ≤ i + 9 → PenH H' p a ns i' d' → But p H H' → Q (.str x) H'
structure DrT (mg : Str → Option Value) (fN fD : Addr) : Prop where
  pen : PenT mg fN
  gD : mg "_law_draw" = some (.ref fD)
  range : mg "range" = none
theorem str_app_len (x y : Str) : (x ++ y).length = x.length + y.length := by
  show (x.cps ++ y.cps).size = _
  simp [Str.length]
theorem str_app_list (x y : Str) : (x ++ y).cps.toList = x.cps.toList ++ y.cps.toList := by
  show (x.cps ++ y.cps).toList = _
  simp
theorem PenH.new {H : Hp} {p a q : Addr} {ns : List Int} {i d : Int} {o : HO} (h : PenH H p a ns i d) (hq : H q = none) : PenH (upd H q o) p a ns i d :=
  ⟨by rw [upd_ne (ne_of_none h.1 hq)]; exact h.1, by rw [upd_ne (ne_of_none h.2.1 hq)]; exact h.2.1, h.2.2⟩
theorem PenH.neq {H : Hp} {p a q : Addr} {ns : List Int} {i d : Int} (h : PenH H p a ns i d) (hq : H q = none) : q ≠ p := (ne_of_none h.1 hq).symm
section
variable {P : Program} {w : World} {K : PySem.W.Frag} {mg : Str → Option Value} {base : Heap} {f fN fD : Addr} {fd fdN fdD : FuncData}
theorem scName : FnScope ["pen", "size", "found", "turn"] ["pen"] (defScope sName) := ⟨rfl, rfl, rfl, by decide +kernel, rfl, by decide +kernel, by decide +kernel⟩
theorem low_at {g : Int} (h0 : 0 ≤ g) (h1 : g < 26) : ∃ c : Nat, atI ("abcdefghijklmnopqrstuvwxyz" : Str).cps.toList g = some c ∧ low c = true := by
  obtain ⟨k, rfl⟩ : ∃ k : Nat, g = (k : Int) := ⟨g.toNat, by omega⟩
  have hk : k < 26 := by omega
  have all : ∀ k : Fin 26, ∃ c : Nat, ("abcdefghijklmnopqrstuvwxyz" : Str).cps.toList[k.val]? = some c ∧ low c = true := by
    intro k
    refine ⟨97 + k.val, ?_, ?_⟩
    · revert k
      decide +kernel
    · revert k
      decide +kernel
  obtain ⟨c, hc, hl⟩ := all ⟨k, hk⟩
  exact ⟨c, atI_nat hc, hl⟩
theorem ok_name (T : DrT mg fN fD) (FN : FnP K "_law_next" sNext fN fdN) (FD : FnP K "_law_draw" sDraw fD fdD) (F : FnP K "_law_name" sName f fd) : FnOk P w K mg base CX0 3 f fd ["pen"] spName := by
  have GD : FnOk P w K mg base CX0 2 fD fdD ["pen", "under"] spDraw := ok_draw T.pen FN FD
  have bD : Binds K fdD ["pen", "under"] [] := FD.bindsN fun _ _ _ _ _ _ us hl => match us, hl with | [_, _], _ => rfl
  refine F.ok scName (fun vs H Q E h => ?_) (fun cdv A outer s H vs Q E hr h => ⟨_, PSs.nox (pss_cons (ps_par (i := 1) (j := 2) rfl scName.nd rfl rfl (by decide) rfl rfl (pa_cons (pe_ix ix_list (pe_lst (pa_cons pe_int (pa_cons pe_int (pa_cons pe_int (pa_cons pe_int (pa_cons pe_int pa_nil)))))) (pe_call GD hr rfl T.gD FD.kp bD .nil pass0 (pa_cons (pv 0) (pa_cons pe_int pa_nil))) (fun _ _ => rfl)) (pa_cons pe_str pa_nil)) (by rfl))
    (pss_cons (ps_for PassesOwn.never rfl (pi_range1 rfl T.range (pa_cons (pv 1) pa_nil)) (pg_name (i := 3) scName.nd rfl (Or.inl rfl))
      (pss_one (ps_set (i := 2) scName.nd rfl (Or.inl rfl) (pe_op op_add_str (pv 2) (pe_ix ix_str pe_str (pe_call GD hr rfl T.gD FD.kp bD .nil pass0 (pa_cons (pv 0) (pa_cons pe_int pa_nil))) (fun _ _ => rfl))))))
    (pss_one (ps_ret (pe_ifExp (pt_cmpR op_notIn_seq (pv 2) (pe_tup (pa_cons pe_str (pa_cons pe_str (pa_cons pe_str (pa_cons pe_str (pa_cons pe_str pa_nil)))))) (by rfl)) (pv 2) pe_str))))), ?_⟩)
  · obtain ⟨p, a, ns, i, d, rfl, _⟩ := h
    rfl
  · obtain ⟨p, a, ns, i, d, rfl, hP, hi, k⟩ := h
    refine ⟨by show 5 ≤ sizeLine; decide, fun l hl => ?_⟩
    refine ⟨_, rfl, p, a, ns, i, d, 5, rfl, hP.new hl, by omega, by decide, by decide, fun g i1 d1 H1 g0 g1 ia ib hP1 b1 => ?_⟩
    obtain ⟨n, hn, hn2⟩ : ∃ n : Nat, atI [V.int 1, .int 1, .int 2, .int 3, .int 8] g = some (.int (n : Int)) ∧ (n = 1 ∨ n = 2 ∨ n = 3 ∨ n = 8) := by
      have : g = 0 ∨ g = 1 ∨ g = 2 ∨ g = 3 ∨ g = 4 := by omega
      rcases this with rfl | rfl | rfl | rfl | rfl
      · exact ⟨1, rfl, by decide⟩
      · exact ⟨1, rfl, by decide⟩
      · exact ⟨2, rfl, by decide⟩
      · exact ⟨3, rfl, by decide⟩
      · exact ⟨8, rfl, by decide⟩
    refine ⟨l, _, g, .int (n : Int), rfl, rfl, SqL.of (b1 l _ (hP.neq hl) upd_same), hn, ?_⟩
    refine ⟨_, _, rfl, ?_⟩
    refine ⟨_, rfl, (n : Int), rfl, by omega, by omega, for_range (lo := 0) (n := (n : Int).toNat) (fun t σ H' => ∃ (x : Str) (v3 : Option V) (i' d' : Int), σ = [some (.ref p), some (.int (n : Int)), some (.str x), v3] ∧ x.length = t ∧ x.cps.toList.all low = true ∧ i1 ≤ i' ∧ i' ≤ i1 + (t : Int) ∧ PenH H' p a ns i' d' ∧ But p H H')
      ⟨"", none, i1, d1, rfl, rfl, rfl, by omega, by omega, hP1, (But.new hl).trans b1⟩ ?_ ?_⟩
    · rintro t σ H2 ht ⟨x, v3, i', d', rfl, hx, hlow, j1, j2, hP2, b2⟩
      refine ⟨_, rfl, _, rfl, p, a, ns, i', d', 26, rfl, hP2, by omega, by decide, by decide, fun g' i2 d2 H3 g20 g21 i2a i2b hP3 b3 => ?_⟩
      obtain ⟨c, hc, lc⟩ := low_at g20 g21
      refine ⟨_, g', c, rfl, rfl, by decide, hc, ?_⟩
      refine ⟨x, ⟨#[c]⟩, rfl, rfl, ?_, ?_⟩
      · rw [hx]
        exact Nat.le_trans (show t + 1 ≤ 100 by omega) (by decide)
      · refine ⟨_, _, i2, d2, rfl, ?_, ?_, by omega, by omega, hP3, b2.trans b3⟩
        · rw [str_app_len, hx] <;> rfl
        · rw [str_app_list, List.all_append, hlow]
          show (true && (low c && true)) = true
          rw [lc] <;> rfl
    · rintro σ H2 ⟨x, v3, i', d', rfl, hx, hlow, j1, j2, hP2, b2⟩
      refine ⟨_, rfl, ?_⟩
      refine ⟨by show 5 ≤ sizeLine; decide, fun r hr => ?_⟩
      refine ⟨r, _, rfl, .inr (SqT.of upd_same), rfl, rfl, ?_⟩
      have hin : inV (.str x) [.str "or", .str "and", .str "not", .str "has", .str "yes"] = (["or", "and", "not", "has", "yes"] : List Str).contains x := inV_strs x ["or", "and", "not", "has", "yes"]
      refine ⟨_, rfl, ite2 (fun hb => ?_) (fun _ => ?_)⟩
      · refine ⟨_, rfl, k x i' d' _ ?_ (by omega) (by omega) (hP2.new hr) (b2.trans (But.new hr))⟩
        have hb' : (["or", "and", "not", "has", "yes"] : List Str).contains x = false := by
          rw [← hin]
          simpa using hb
        have hx' : x.length = n := by rw [hx] <;> omega
        have hnf : (noNames.contains x) = false := by
          rw [List.contains_eq_any_beq] at hb' ⊢
          rw [List.any_eq_false] at hb' ⊢
          intro y hy
          by_cases e : y ∈ (["or", "and", "not", "has", "yes"] : List Str)
          · exact hb' y e
          · have ey : y = "flag" := by
              simp only [noNames, List.mem_cons, List.not_mem_nil, or_false, not_or] at hy e
              rcases hy with z | z | z | z | z | z
              · exact absurd z e.2.1
              · exact absurd z e.1
              · exact absurd z e.2.2.1
              · exact absurd z e.2.2.2.1
              · exact absurd z e.2.2.2.2
              · exact z
            subst ey
            intro z
            have z' : x = "flag" := by simpa using z
            rw [z'] at hx'
            have : ("flag" : Str).length = 4 := by decide +kernel
            omega
        unfold isNameS
        rw [hnf, hlow, hx']
        rcases hn2 with rfl | rfl | rfl | rfl <;> rfl
      · exact k "x" i' d' _ (by decide +kernel) (by omega) (by omega) (hP2.new hr) (b2.trans (But.new hr))
end
end K01
set_option Elab.async false
set_option linter.all false
set_option maxRecDepth 100000
set_option maxHeartbeats 4000000
/-! the data level: what a reading means, told of data alone; the heap stands behind (F: what is frozen, H: all) -/
namespace Dl
open PySem PySem.Spec PyProof.Rows L2 Evl Gd LamX
/-- frozen data, a thing by what is true of it, the pen; an owned list, an owned dict (fresh, to be changed) -/
inductive Dv where
  | dat (d : PyData)
  | mp (P : Hp → V → Prop)
  | pen
  | own (ds : List PyData)
  | ownK (ps : List (PyData × PyData))
  | ownX (K : PySem.W.Frag) (P : Hp → V → Prop) (ps : List (PyData × PyData))
abbrev Env := List (Option Dv)
def Dv.isOwn : Dv → Bool
  | .own _ => true
  | .ownK _ => true
  | .ownX _ _ _ => true
  | _ => false
/-- a dict, P holds of its values -/
def DictX (K : PySem.W.Frag) (P : Hp → V → Prop) (ps : List (PyData × PyData)) : Hp → V → Prop := fun F v => ∃ (a : Addr) (kvs : List (Key × V)), v = .ref a ∧ F a = some (.dK kvs) ∧ ps.map (·.1) = kvs.map (fun p => keyD p.1) ∧ DqAll K F (kvs.map (·.2)) (ps.map (·.2)) ∧ ∀ w ∈ kvs.map (·.2), ∀ F', Ex F F' → P F' w
/-- frozen -/
def Dv.fz : Dv → Dv
  | .own ds => .dat (.list ds)
  | .ownK ps => .dat (.dict ps)
  | .ownX K P ps => .mp (DictX K P ps)
  | e => e
structure Base where
  F0 : Hp
  H0 : Hp
  pn : Option (Addr × Addr × List Int)
  lk : List (Addr × Obj)
  T : List (Addr × Str)
  free : Bool
  RX : Addr → Nat → Prop
  XE : XK
/-- the pen and the tables change on the way -/
def Base.hot (B : Base) (a : Addr) : Prop := (∃ x ns, B.pn = some (a, x, ns)) ∨ a ∈ B.T.map (·.1)
def DictO : HO → Prop
  | .dK _ => True
  | .dT _ => True
  | _ => False
def Le (F H : Hp) : Prop := ∀ a u, F a = some u → H a = some u ∨ (DictO u ∧ ∃ o, H a = some (.frz o u))
/-- nothing, or a tuple -/
def Tn (o : Option HO) : Prop := ∀ u, o = some u → ∃ xs, u = .tup xs
theorem Tn.non : Tn none := fun _ z => nomatch z
theorem Tn.of {o : Option HO} (h : o = none) : Tn o := h ▸ Tn.non
/-- on the way: what is frozen grows by new things and by tuples alone, all stays but the pen and the tables -/
structure Go (B : Base) (F H F' H' : Hp) : Prop where
  ex : Ex F F'
  kp : ∀ a o, H a = some o → ¬ B.hot a → H' a = some o
  nw : ∀ a, H a ≠ none → F a = none → ¬ B.hot a → Tn (F' a)
theorem Go.refl {B : Base} (F H : Hp) : Go B F H F H := ⟨Ex.refl F, fun _ _ e _ => e, fun _ _ e _ => .of e⟩
theorem Go.trans {B : Base} {F H F1 H1 F2 H2 : Hp} (a : Go B F H F1 H1) (b : Go B F1 H1 F2 H2) : Go B F H F2 H2 where
  ex := a.ex.trans b.ex
  kp := fun c o e n => b.kp c o (a.kp c o e n) n
  nw := fun c e f n => by
    have e1 : H1 c ≠ none := by
      cases q : H c with
      | none => exact absurd q e
      | some o => rw [a.kp c o q n]; exact fun z => nomatch z
    have t1 := a.nw c e f n
    cases q : F1 c with
    | none => exact b.nw c e1 q n
    | some u =>
      obtain ⟨xs, rfl⟩ := t1 u q
      rw [b.ex c _ q]
      exact fun w hw => ⟨xs, (Option.some.inj hw).symm⟩
theorem Go.of_ex {B : Base} {F H H' : Hp} (e : Ex H H') : Go B F H F H' := ⟨Ex.refl F, fun a o h _ => e a o h, fun _ _ f _ => .of f⟩
def Df (K : PySem.W.Frag) (B : Base) (F : Hp) (v : V) : Dv → Prop
  | .dat d => Dq K F v d
  | .mp P => ∀ F', Ex F F' → P F' v
  | .pen => ∃ p a ns, B.pn = some (p, a, ns) ∧ v = .ref p
  | _ => False
def Dr (K : PySem.W.Frag) (B : Base) (F H : Hp) (v : V) : Dv → Prop
  | .own ds => ∃ p vs, v = .ref p ∧ B.H0 p = none ∧ F p = none ∧ H p = some (.lst vs) ∧ DqAll K F vs ds
  | .ownK ps => ∃ p kvs, v = .ref p ∧ B.H0 p = none ∧ F p = none ∧ H p = some (.dK kvs) ∧ ps.map (·.1) = kvs.map (fun p => keyD p.1) ∧ DqAll K F (kvs.map (·.2)) (ps.map (·.2)) ∧ (kvs.map (·.1)).Nodup
  | .ownX K' P ps => ∃ p kvs, v = .ref p ∧ B.H0 p = none ∧ F p = none ∧ H p = some (.dK kvs) ∧ ps.map (·.1) = kvs.map (fun p => keyD p.1) ∧ DqAll K' F (kvs.map (·.2)) (ps.map (·.2)) ∧ (kvs.map (·.1)).Nodup ∧ ∀ w ∈ kvs.map (·.2), ∀ F', Ex F F' → P F' w
  | e => Df K B F v e
/-- a tuple of things, as it is -/
def XT (o : Obj) (u : HO) : Prop := o.dict = none ∧ ∃ (xs : List V) (r : Addr), u = .tup xs ∧ V.ref r ∈ xs
theorem xt_no {o : Obj} {u : HO} (h : XT o u) (n : ∀ xs, u ≠ .tup xs) : False := by
  obtain ⟨_, xs, _, e, _⟩ := h
  exact n xs e
theorem xt_str {o : Obj} {k : List Str} (h : XT o (.tup (k.map V.str))) : False := by
  obtain ⟨_, xs, r, e, m⟩ := h
  cases e
  obtain ⟨x, _, z⟩ := List.mem_map.mp m
  cases z
structure Sr (K : PySem.W.Frag) (B : Base) (b : Nat) (F H : Hp) : Prop where
  le : Le F H
  nfz : ∀ a o u, F a = some (.frz o u) → XT o u
  ntb : ∀ a ps, F a ≠ some (.tbl ps)
  ex0 : Ex B.F0 F
  fr : ∀ a o, B.H0 a = some o → ¬ B.hot a → a ∉ B.lk.map (·.1) → H a = some o
  dom : ∀ a, B.H0 a ≠ none → H a ≠ none
  frN : ∀ a, B.H0 a ≠ none → B.F0 a = none → Tn (F a)
  free : B.free = true → ∀ a u, F a = some u → a ∉ B.lk.map (·.1) → H a = some u
  lkd : ∀ p ∈ B.lk, ∃ u, DictO u ∧ H p.1 = some (.frz p.2 u) ∧ F p.1 = some u
  tabs : Tabs B.T H
  tb0 : ∀ p ∈ B.T, B.H0 p.1 ≠ none ∧ F p.1 = none
  pen : ∀ p a ns, B.pn = some (p, a, ns) → B.H0 p ≠ none ∧ F p = none ∧ F a = some (.lst (ns.map V.int)) ∧ ns.length ≤ 60 ∧ ∃ i d : Int, H p = some (.lst [.ref a, .int i, .int d]) ∧ 0 ≤ i ∧ i + (b : Int) ≤ 2 ^ 39
structure Sd (K : PySem.W.Frag) (B : Base) (δ : Env) (b : Nat) (σ : L2.St) (F H : Hp) : Prop extends Sr K B b F H where
  len : δ.length = σ.length
  at_ : ∀ (i : Nat) (e : Dv), δ[i]? = some (some e) → ∃ v, σ[i]? = some (some v) ∧ Dr K B F H v e
  apart : ∀ (i j : Nat) (ei ej : Dv) (v : V), i ≠ j → δ[i]? = some (some ei) → δ[j]? = some (some ej) → ei.isOwn = true → ej.isOwn = true → σ[i]? = some (some v) → σ[j]? = some (some v) → False
/-- what is owned is new -/
def Nw (H : Hp) (v : V) (e : Dv) : Prop := e.isOwn = true → ∃ p, v = .ref p ∧ H p = none
section
variable {K : PySem.W.Frag} {B : Base} {F F' H H' : Hp} {v : V} {e : Dv} {δ : Env} {b : Nat} {σ : L2.St} {d : PyData} {ds : List PyData}
theorem Sr.lk (s : Sr K B b F H) : Lk F H := fun a u r => by
  rcases r with r | ⟨o, r⟩
  · rcases s.le a u r with q | ⟨_, o, q⟩
    · exact .inl q
    · exact .inr ⟨o, q⟩
  · rcases s.le a _ r with q | ⟨z, _⟩
    · exact .inr ⟨o, q⟩
    · exact z.elim
theorem Sr.non (s : Sr K B b F H) {a : Addr} (h : H a = none) : F a = none := by
  cases q : F a with
  | none => rfl
  | some u => rcases s.le a u q with z | ⟨_, o, z⟩ <;> rw [h] at z <;> cases z
theorem Sr.h0 (s : Sr K B b F H) {a : Addr} (h : H a = none) : B.H0 a = none := by
  cases q : B.H0 a with
  | none => rfl
  | some u => exact absurd h (s.dom a (by rw [q]; exact fun z => nomatch z))
theorem Sr.exact (s : Sr K B b F H) {a : Addr} {u : HO} (h : F a = some u) (n : ¬ DictO u) : H a = some u := by
  rcases s.le a u h with q | ⟨q, _⟩
  · exact q
  · exact absurd q n
theorem Sr.dq (s : Sr K B b F H) (h : Dq K F v d) : Dq K H v d := Dq.lkd s.lk d v h
theorem Sr.dqs {vs : List V} (s : Sr K B b F H) (h : DqAll K F vs ds) : DqAll K H vs ds := Dq.lkdAll s.lk ds vs h
theorem Df.up (x : Ex F F') (h : Df K B F v e) : Df K B F' v e := by
  cases e with
  | dat d => exact Dq.up (K := K) h x
  | mp P => exact fun F2 x2 => h F2 (x.trans x2)
  | pen => exact h
  | own ds => exact h
  | ownK ps => exact h
  | ownX _ _ _ => exact h
theorem Df.notOwn (h : Df K B F v e) : e.isOwn = false := by
  cases e with
  | own _ => exact h.elim
  | ownK _ => exact h.elim
  | ownX _ _ _ => exact h.elim
  | _ => rfl
theorem Df.fzz (h : Df K B F v e) : e.fz = e := by
  cases e with
  | own _ => exact h.elim
  | ownK _ => exact h.elim
  | ownX _ _ _ => exact h.elim
  | _ => rfl
theorem Dr.of (h : Df K B F v e) : Dr K B F H v e := by
  cases e with
  | own _ => exact h.elim
  | ownK _ => exact h.elim
  | ownX _ _ _ => exact h.elim
  | dat _ => exact h
  | mp _ => exact h
  | pen => exact h
theorem Dr.df (h : Dr K B F H v e) (n : e.isOwn = false) : Df K B F v e := by
  cases e with
  | own _ => cases n
  | ownK _ => cases n
  | ownX _ _ _ => cases n
  | dat _ => exact h
  | mp _ => exact h
  | pen => exact h
/-- the slots' view goes on: what is frozen grows, what is owned by slots stays -/
theorem Dr.go (x : Ex F F') (h : Dr K B F H v e) (keep : e.isOwn = true → ∀ p o, v = .ref p → H p = some o → F p = none → B.H0 p = none → H' p = some o ∧ F' p = none) : Dr K B F' H' v e := by
  cases e with
  | dat d => exact Df.up (B := B) (e := .dat d) x h
  | mp P => exact Df.up (B := B) (K := K) (e := .mp P) x h
  | pen => exact h
  | own ds =>
    obtain ⟨p, vs, e1, e2, e3, e4, e5⟩ := h
    obtain ⟨k1, k2⟩ := keep rfl p _ e1 e4 e3 e2
    exact ⟨p, vs, e1, e2, k2, k1, e5.up x⟩
  | ownK ps =>
    obtain ⟨p, vs, e1, e2, e3, e4, e5, e6, e7⟩ := h
    obtain ⟨k1, k2⟩ := keep rfl p _ e1 e4 e3 e2
    exact ⟨p, vs, e1, e2, k2, k1, e5, e6.up x, e7⟩
  | ownX K' P ps =>
    obtain ⟨p, vs, e1, e2, e3, e4, e5, e6, e7, e8⟩ := h
    obtain ⟨k1, k2⟩ := keep rfl p _ e1 e4 e3 e2
    exact ⟨p, vs, e1, e2, k2, k1, e5, e6.up x, e7, fun w hw F2 x2 => e8 w hw F2 (x.trans x2)⟩
theorem Nw.no (n : e.isOwn = false) : Nw H v e := fun z => by rw [n] at z; cases z
theorem Dr.ref (h : Dr K B F H v e) (n : e.isOwn = true) : ∃ p o, v = .ref p ∧ H p = some o ∧ F p = none ∧ B.H0 p = none := by
  cases e with
  | own ds =>
    obtain ⟨p, vs, e1, e2, e3, e4, e5⟩ := h
    exact ⟨p, _, e1, e4, e3, e2⟩
  | ownK ps =>
    obtain ⟨p, vs, e1, e2, e3, e4, e5, e6⟩ := h
    exact ⟨p, _, e1, e4, e3, e2⟩
  | ownX K' P ps =>
    obtain ⟨p, vs, e1, e2, e3, e4, e5, e6⟩ := h
    exact ⟨p, _, e1, e4, e3, e2⟩
  | _ => cases n
theorem hot0 (s : Sr K B b F H) {a : Addr} (h : B.hot a) : B.H0 a ≠ none := by
  rcases h with ⟨x, ns, h⟩ | h
  · exact (s.pen a x ns h).1
  · obtain ⟨p, hp, rfl⟩ := List.mem_map.mp h
    exact (s.tb0 p hp).1
theorem Dr.noTup (h : Dr K B F H v e) (n : e.isOwn = true) {p : Addr} {xs : List V} (e1 : v = .ref p) (e2 : H p = some (.tup xs)) : False := by
  cases e with
  | own ds =>
    obtain ⟨q, vs, h1, _, _, h2, _⟩ := h
    rw [e1] at h1
    cases h1
    rw [e2] at h2
    cases h2
  | ownK ps =>
    obtain ⟨q, vs, h1, _, _, h2, _⟩ := h
    rw [e1] at h1
    cases h1
    rw [e2] at h2
    cases h2
  | ownX K' P ps =>
    obtain ⟨q, vs, h1, _, _, h2, _⟩ := h
    rw [e1] at h1
    cases h1
    rw [e2] at h2
    cases h2
  | _ => cases n
theorem tabs_keep {T : List (Addr × Str)} {H H' : Hp} (t : Tabs T H) (e : ∀ b o, H b = some o → H' b = some o) : Tabs T H' := LamX.Tabs.ext t e
/-- what stands there is no tuple: it isn't frozen -/
theorem Sr.noT (s : Sr K B b F H) {a : Addr} {o : HO} (t : Tn (F a)) (h : H a = some o) (n : ∀ xs, o ≠ .tup xs) : F a = none := by
  cases q : F a with
  | none => rfl
  | some u =>
    obtain ⟨xs, rfl⟩ := t u q
    rcases s.le a _ q with z | ⟨z, _⟩
    · rw [h] at z
      exact absurd (Option.some.inj z) (n xs)
    · exact z.elim
/-- a new thing that is not (yet) frozen -/
theorem Sr.grow (s : Sr K B b F H) (x : Ex H H') : Sr K B b F H' where
  le := fun a u h => by
    rcases s.le a u h with q | ⟨q, o, z⟩
    · exact .inl (x a u q)
    · exact .inr ⟨q, o, x _ _ z⟩
  nfz := s.nfz
  ntb := s.ntb
  ex0 := s.ex0
  fr := fun a o h n l => x _ _ (s.fr a o h n l)
  dom := fun a h => by
    have z := s.dom a h
    cases q : H a with
    | none => exact absurd q z
    | some u => rw [x _ _ q]; exact fun z => nomatch z
  frN := s.frN
  free := fun f a u q n => x _ _ (s.free f a u q n)
  lkd := fun p hp => by
    obtain ⟨u, h2, h3, h4⟩ := s.lkd p hp
    exact ⟨u, h2, x _ _ h3, h4⟩
  tabs := tabs_keep s.tabs x
  tb0 := s.tb0
  pen := fun p a ns h => by
    obtain ⟨h1, h2, h3, h4, i, d, h5, h6, h7⟩ := s.pen p a ns h
    exact ⟨h1, h2, h3, h4, i, d, x _ _ h5, h6, h7⟩
theorem Sd.grow (s : Sd K B δ b σ F H) (x : Ex H H') : Sd K B δ b σ F H' where
  toSr := s.toSr.grow x
  len := s.len
  at_ := fun i e h => by
    obtain ⟨v, h1, h2⟩ := s.at_ i e h
    exact ⟨v, h1, h2.go (Ex.refl F) fun _ p o e q f _ => ⟨x _ _ q, f⟩⟩
  apart := s.apart
/-- a thing that stands, of nobody, is frozen from now on -/
theorem Sr.freeze (s : Sr K B b F H) {p : Addr} {u : HO} (h : H p = some u) (h0 : B.H0 p = none) (hF : F p = none) (n1 : ∀ o w, u = .frz o w → XT o w) (n2 : ∀ ps, u ≠ .tbl ps) : Sr K B b (L2.upd F p u) H where
  le := fun a w h' => by
    by_cases e : a = p
    · subst e
      rw [upd_same] at h'
      cases h'
      exact .inl h
    · rw [upd_ne e] at h'
      exact s.le a w h'
  nfz := fun a o w h' => by
    by_cases e : a = p
    · subst e
      rw [upd_same] at h'
      exact n1 o w (Option.some.inj h')
    · rw [upd_ne e] at h'
      exact s.nfz a o w h'
  ntb := fun a w h' => by
    by_cases e : a = p
    · subst e
      rw [upd_same] at h'
      exact n2 w (Option.some.inj h')
    · rw [upd_ne e] at h'
      exact s.ntb a w h'
  ex0 := s.ex0.trans (Ex.new hF)
  fr := s.fr
  dom := s.dom
  frN := fun a h1 h2 => by
    have e : a ≠ p := fun e => h1 (e ▸ h0)
    rw [upd_ne e]
    exact s.frN a h1 h2
  free := fun f a w h' l => by
    by_cases e : a = p
    · subst e
      rw [upd_same] at h'
      cases h'
      exact h
    · rw [upd_ne e] at h'
      exact s.free f a w h' l
  lkd := fun q hq => by
    obtain ⟨w, h2, h3, h4⟩ := s.lkd q hq
    exact ⟨w, h2, h3, by rw [upd_ne (ne_of_none h4 hF)]; exact h4⟩
  tabs := s.tabs
  tb0 := fun q hq => by
    obtain ⟨h1, h2⟩ := s.tb0 q hq
    have e : q.1 ≠ p := fun e => h1 (e ▸ h0)
    exact ⟨h1, by rw [upd_ne e]; exact h2⟩
  pen := fun q a ns h' => by
    obtain ⟨h1, h2, h3, h4⟩ := s.pen q a ns h'
    have e : q ≠ p := fun e => h1 (e ▸ h0)
    have e2 : a ≠ p := ne_of_none h3 hF
    exact ⟨h1, by rw [upd_ne e]; exact h2, by rw [upd_ne e2]; exact h3, h4⟩
theorem Sr.hotH (s : Sr K B b F H) {a : Addr} (h : B.hot a) : H a ≠ none := s.dom a (hot0 s h)
theorem Go.fresh (g : Go B F H F' H') (s' : Sr K B b F' H') {p : Addr} (h : H' p = none) : H p = none := by
  cases q : H p with
  | none => rfl
  | some o =>
    by_cases n : B.hot p
    · exact absurd h (s'.hotH n)
    · rw [g.kp p o q n] at h
      cases h
theorem Nw.back (g : Go B F H F' H') (s' : Sr K B b F' H') (h : Nw H' v e) : Nw H v e := fun o => by
  obtain ⟨p, e1, e2⟩ := h o
  exact ⟨p, e1, g.fresh s' e2⟩
theorem own_cold (s : Sr K B b F H) {p : Addr} (h0 : B.H0 p = none) : ¬ B.hot p := fun z => hot0 s z h0
/-- the slots are as they were -/
theorem Sd.back {b' : Nat} (s : Sd K B δ b σ F H) (s' : Sr K B b' F' H') (g : Go B F H F' H') : Sd K B δ b' σ F' H' where
  toSr := s'
  len := s.len
  at_ := fun i e h => by
    obtain ⟨v, h1, h2⟩ := s.at_ i e h
    refine ⟨v, h1, h2.go g.ex fun ow p o e q f h0 => ?_⟩
    have n := own_cold s.toSr h0
    have k := g.kp p o q n
    refine ⟨k, s'.noT (g.nw p (by rw [q]; exact fun z => nomatch z) f n) k fun xs z => ?_⟩
    subst z
    exact h2.noTup ow e q
  apart := s.apart
theorem Sr.fz (s : Sr K B b F H) (h : Dr K B F H v e) {G : Hp} (hG : ∀ p, v = .ref p → e.isOwn = true → G p = none) : ∃ F', Ex F F' ∧ Sr K B b F' H ∧ Df K B F' v e.fz ∧ ∀ a, G a ≠ none → F' a = F a := by
  cases e with
  | dat d => exact ⟨F, Ex.refl F, s, h, fun _ _ => rfl⟩
  | mp P => exact ⟨F, Ex.refl F, s, h, fun _ _ => rfl⟩
  | pen => exact ⟨F, Ex.refl F, s, h, fun _ _ => rfl⟩
  | own ds =>
    obtain ⟨p, vs, rfl, h0, hF, hH, hd⟩ := h
    refine ⟨_, Ex.new hF, s.freeze hH h0 hF (fun _ _ z => nomatch z) (fun _ z => nomatch z), .lst (.inl upd_same) (hd.up (Ex.new hF)), fun a n => ?_⟩
    have q : a ≠ p := fun z => n (by rw [z]; exact hG p rfl rfl)
    rw [upd_ne q]
  | ownK ps =>
    obtain ⟨p, kvs, rfl, h0, hF, hH, hk, hd, nd⟩ := h
    refine ⟨_, Ex.new hF, s.freeze hH h0 hF (fun _ _ z => nomatch z) (fun _ z => nomatch z), .dct (.inl upd_same) hk (hd.up (Ex.new hF)), fun a n => ?_⟩
    have q : a ≠ p := fun z => n (by rw [z]; exact hG p rfl rfl)
    rw [upd_ne q]
  | ownX K' P ps =>
    obtain ⟨p, kvs, rfl, h0, hF, hH, hk, hd, nd, hP⟩ := h
    refine ⟨_, Ex.new hF, s.freeze hH h0 hF (fun _ _ z => nomatch z) (fun _ z => nomatch z), fun F2 x2 => ⟨p, kvs, rfl, x2 _ _ upd_same, hk, (hd.up (Ex.new hF)).up x2, fun w hw F3 x3 => hP w hw F3 (((Ex.new hF).trans x2).trans x3)⟩, fun a n => ?_⟩
    have q : a ≠ p := fun z => n (by rw [z]; exact hG p rfl rfl)
    rw [upd_ne q]
theorem Sd.frsl (s : Sd K B δ b σ F H) {p : Addr} (h : H p = none) (i : Nat) (ei : Dv) (h1 : δ[i]? = some (some ei)) (h2 : ei.isOwn = true) : σ[i]? ≠ some (some (.ref p)) := fun z => by
  obtain ⟨v, e1, e2⟩ := s.at_ i ei h1
  obtain ⟨q, o, e3, e4, _⟩ := e2.ref h2
  rw [e1] at z
  cases z
  cases e3
  rw [h] at e4
  cases e4
theorem DqAll.snoc {vs : List V} (h : DqAll K F vs ds) (h1 : Dq K F v d) : DqAll K F (vs ++ [v]) (ds ++ [d]) := by
  induction ds generalizing vs with
  | nil =>
    cases h
    exact .cons h1 .nil
  | cons e ds ih =>
    cases h with
    | cons q r => exact .cons q (ih r)
/-- what came out, frozen -/
theorem Go.fz {b' : Nat} (g : Go B F H F' H') (s' : Sr K B b' F' H') (h : Dr K B F' H' v e) (n : Nw H v e) : ∃ F2, Sr K B b' F2 H' ∧ Go B F H F2 H' ∧ Df K B F2 v e.fz := by
  obtain ⟨F2, x, s2, d2, n2⟩ := s'.fz h (G := H) fun p e o => by
    obtain ⟨q, e1, e2⟩ := n o
    rw [e] at e1
    cases e1
    exact e2
  exact ⟨F2, s2, ⟨g.ex.trans x, g.kp, fun a h1 h2 h3 => by rw [n2 a h1]; exact g.nw a h1 h2 h3⟩, d2⟩
/-- a new list, a new tuple -/
theorem Sr.newL (s : Sr K B b F H) {p : Addr} (h : H p = none) {vs : List V} (hd : DqAll K F vs ds) : Sr K B b F (L2.upd H p (.lst vs)) ∧ Go B F H F (L2.upd H p (.lst vs)) ∧ Dr K B F (L2.upd H p (.lst vs)) (.ref p) (.own ds) ∧ Nw H (.ref p) (.own ds) :=
  ⟨s.grow (Ex.new h), Go.of_ex (Ex.new h), ⟨p, vs, rfl, s.h0 h, s.non h, upd_same, hd⟩, fun _ => ⟨p, rfl, h⟩⟩
theorem Go.new (s : Sr K B b F H) {p : Addr} (h : H p = none) {u : HO} : Go B F H (L2.upd F p u) (L2.upd H p u) where
  ex := Ex.new (s.non h)
  kp := fun a o e _ => Ex.new h a o e
  nw := fun a e f _ => by
    have q : a ≠ p := fun z => e (by rw [z]; exact h)
    rw [upd_ne q]
    exact .of f
theorem Sr.newF (s : Sr K B b F H) {p : Addr} (h : H p = none) {u : HO} (n1 : ∀ o w, u = .frz o w → XT o w) (n2 : ∀ ps, u ≠ .tbl ps) : Sr K B b (L2.upd F p u) (L2.upd H p u) :=
  (s.grow (Ex.new h)).freeze upd_same (s.h0 h) (s.non h) n1 n2
/-- a tuple that stands may be frozen -/
theorem Sr.pubT (s : Sr K B b F H) {q : Addr} {xs : List V} (h : H q = some (.tup xs)) (hF : F q = none) : Sr K B b (L2.upd F q (.tup xs)) H ∧ Go B F H (L2.upd F q (.tup xs)) H := by
  have ne : ∀ {a : Addr} {u : HO}, F a = some u → a ≠ q := fun e => ne_of_none e hF
  refine ⟨{ le := fun a w h' => ?_, nfz := fun a o w h' => ?_, ntb := fun a w h' => ?_, ex0 := s.ex0.trans (Ex.new hF), fr := s.fr, dom := s.dom, frN := fun a h1 h2 => ?_, free := fun f a w h' l => ?_, lkd := fun p hp => ?_, tabs := s.tabs, tb0 := fun p hp => ?_, pen := fun p a ns h' => ?_ }, Ex.new hF, fun a o e _ => e, fun a h1 h2 _ => ?_⟩
  · by_cases e : a = q
    · subst e
      rw [upd_same] at h'
      cases h'
      exact .inl h
    · rw [upd_ne e] at h'
      exact s.le a w h'
  · by_cases e : a = q
    · subst e
      rw [upd_same] at h'
      cases h'
    · rw [upd_ne e] at h'
      exact s.nfz a o w h'
  · by_cases e : a = q
    · subst e
      rw [upd_same] at h'
      cases h'
    · rw [upd_ne e] at h'
      exact s.ntb a w h'
  · by_cases e : a = q
    · subst e
      rw [upd_same]
      exact fun w hw => ⟨xs, (Option.some.inj hw).symm⟩
    · rw [upd_ne e]
      exact s.frN a h1 h2
  · by_cases e : a = q
    · subst e
      rw [upd_same] at h'
      cases h'
      exact h
    · rw [upd_ne e] at h'
      exact s.free f a w h' l
  · obtain ⟨w, h2, h3, h4⟩ := s.lkd p hp
    exact ⟨w, h2, h3, by rw [upd_ne (ne h4)]; exact h4⟩
  · obtain ⟨h1, h2⟩ := s.tb0 p hp
    obtain ⟨ps, t1, _⟩ := s.tabs p hp
    have e : p.1 ≠ q := fun e => by
      rw [e, h] at t1
      cases t1
    exact ⟨h1, by rw [upd_ne e]; exact h2⟩
  · obtain ⟨h1, h2, h3, h4, i, d, k, h5⟩ := s.pen p a ns h'
    have e : p ≠ q := fun e => by
      rw [e, h] at k
      cases k
    exact ⟨h1, by rw [upd_ne e]; exact h2, by rw [upd_ne (ne h3)]; exact h3, h4, i, d, k, h5⟩
  · by_cases e : a = q
    · subst e
      rw [upd_same]
      exact fun w hw => ⟨xs, (Option.some.inj hw).symm⟩
    · rw [upd_ne e, h2]
      exact .non
theorem Sr.newT (s : Sr K B b F H) {p : Addr} (h : H p = none) {vs : List V} (hd : DqAll K F vs ds) : Sr K B b (L2.upd F p (.tup vs)) (L2.upd H p (.tup vs)) ∧ Go B F H (L2.upd F p (.tup vs)) (L2.upd H p (.tup vs)) ∧ Dq K (L2.upd F p (.tup vs)) (.ref p) (.tuple ds) :=
  ⟨s.newF h (fun _ _ z => nomatch z) (fun _ z => nomatch z), Go.new s h, .tup (.inl upd_same) (hd.up (Ex.new (s.non h)))⟩
end
/-! ### the judgements -/
section
variable (K : PySem.W.Frag) (B : Base)
def Me (te : TE) (δ : Env) (b : Nat) (R : Dv → Nat → Prop) : Prop := ∀ σ F H, Sd K B δ b σ F H → ∀ Q : VK,
  (∀ v e b' F' H', R e b' → Sr K B b' F' H' → Go B F H F' H' → Dr K B F' H' v e → Nw H v e → Q v H') → te σ H Q
def MT (tt : TT) (δ : Env) (b : Nat) (R : Bool → Nat → Prop) : Prop := ∀ σ F H, Sd K B δ b σ F H → ∀ Q : Bool → Hp → Prop,
  (∀ k b' F' H', R k b' → Sr K B b' F' H' → Go B F H F' H' → Q k H') → tt σ H Q
def DfAll (F : Hp) : List V → List Dv → Prop := fun vs es => vs.length = es.length ∧ ∀ (i : Nat) v e, vs[i]? = some v → es[i]? = some e → Df K B F v e
def MA (ta : TA) (δ : Env) (b : Nat) (R : List Dv → Nat → Prop) : Prop := ∀ σ F H, Sd K B δ b σ F H → ∀ Q : List V → Hp → Prop,
  (∀ vs es b' F' H', R es b' → Sr K B b' F' H' → Go B F H F' H' → DfAll K B F' vs es → Q vs H') → ta σ H Q
/-- on values -/
def OpD (r : R2) (x y : Dv) (R : Dv → Prop) : Prop := ∀ b F H, Sr K B b F H → ∀ vx vy, Df K B F vx x → Df K B F vy y → ∀ Q : VK,
  (∀ v e F' H', R e → Sr K B b F' H' → Go B F H F' H' → Dr K B F' H' v e → Nw H v e → Q v H') → r vx vy H Q
def CallD (r : List V → Hp → VK → Prop) (es : List Dv) (b : Nat) (R : Dv → Nat → Prop) : Prop := ∀ F H, Sr K B b F H → ∀ vs, DfAll K B F vs es → ∀ Q : VK,
  (∀ v e b' F' H', R e b' → Sr K B b' F' H' → Go B F H F' H' → Dr K B F' H' v e → Nw H v e → Q v H') → r vs H Q
structure Ed where
  nx : Env → Nat → Prop
  rt : Dv → Nat → Prop
  bk : Env → Nat → Prop := fun _ _ => False
  ct : Env → Nat → Prop := fun _ _ => False
structure EdOk (E : Ed) (D : Ends) : Prop where
  nx : ∀ δ b σ F H, E.nx δ b → Sd K B δ b σ F H → D.nx σ H
  rt : ∀ v e b F H, E.rt e b → Sr K B b F H → Dr K B F H v e → D.rt v H
  bk : ∀ δ b σ F H, E.bk δ b → Sd K B δ b σ F H → D.bk σ H
  ct : ∀ δ b σ F H, E.ct δ b → Sd K B δ b σ F H → D.ct σ H
def Ms (ts : TS) (δ : Env) (b : Nat) (E : Ed) : Prop := ∀ σ F H, Sd K B δ b σ F H → ∀ D : Ends, EdOk K B E D → ts D σ H
/-- targets -/
def Mg (g : TG) (x : Dv) (δ : Env) (b : Nat) (R : Env → Prop) : Prop := ∀ σ F H, Sd K B δ b σ F H → ∀ v, Dr K B F H v x → (x.isOwn = true → ∀ (i : Nat) (ei : Dv), δ[i]? = some (some ei) → ei.isOwn = true → σ[i]? ≠ some (some v)) → ∀ Q : L2.St → Hp → Prop,
  (∀ δ' σ', R δ' → Sd K B δ' b σ' F H → Q σ' H) → g v σ H Q
end
section
variable {K : PySem.W.Frag} {B : Base} {F F' H H' : Hp} {v : V} {e : Dv} {δ : Env} {b : Nat} {σ : L2.St} {d : PyData} {ds : List PyData} {ta tb te : TE} {t u : TT} {R : Dv → Nat → Prop} {S : Bool → Nat → Prop}
theorem Me.mono {R' : Dv → Nat → Prop} (h : Me K B te δ b R) (i : ∀ e b', R e b' → R' e b') : Me K B te δ b R' := fun σ F H s Q k => h σ F H s Q fun v e b' F' H' r => k v e b' F' H' (i e b' r)
theorem MT.mono {S S' : Bool → Nat → Prop} (h : MT K B t δ b S) (i : ∀ e b', S e b' → S' e b') : MT K B t δ b S' := fun σ F H s Q k => h σ F H s Q fun v b' F' H' r => k v b' F' H' (i v b' r)
/-- the result frozen -/
theorem Me.run {Rest : Dv → Nat → Prop} (h : Me K B te δ b fun e b1 => Rest e.fz b1) (s : Sd K B δ b σ F H) {Q : VK} (k : ∀ v x b1 F1 H1, Rest x b1 → Sr K B b1 F1 H1 → Go B F H F1 H1 → Df K B F1 v x → Q v H1) : te σ H Q :=
  h σ F H s Q fun v e b' F' H' r s' g dr nw => by
    obtain ⟨F2, s2, g2, d2⟩ := g.fz s' dr nw
    exact k v e.fz b' F2 H' r s2 g2 d2
theorem Sd.get (s : Sd K B δ b σ F H) {i : Nat} (h : δ[i]? = some (some e)) (n : e.isOwn = false := by rfl) : ∃ v, σ[i]? = some (some v) ∧ Df K B F v e := by
  obtain ⟨v, h1, h2⟩ := s.at_ i e h
  exact ⟨v, h1, h2.df n⟩
theorem me_var {i : Nat} (r : R e b) (h : δ[i]? = some (some e) := by rfl) (n : e.isOwn = false := by rfl) : Me K B (tVar i) δ b R := fun σ F H s Q k => by
  obtain ⟨v, h1, h2⟩ := s.get h n
  exact ⟨v, h1, k v e b F H r s.toSr (Go.refl F H) (Dr.of h2) (Nw.no n)⟩
/-- constants -/
inductive CD : V → PyData → Prop
  | non : CD .non .none
  | bl (b : Bool) : CD (.bl b) (.bool b)
  | int (i : Int) : CD (.int i) (.int i)
  | str (x : Str) : CD (.str x) (.str x)
theorem CD.dq {v : V} {d : PyData} (c : CD v d) : Dq K F v d := by
  cases c with
  | non => exact .non
  | bl b => exact .bl b
  | int i => exact .int i
  | str x => exact .str x
theorem me_c {v : V} (c : CD v d) (r : R (.dat d) b) : Me K B (tC v) δ b R := fun σ F H s Q k => k v (.dat d) b F H r s.toSr (Go.refl F H) (CD.dq (K := K) (F := F) c) (Nw.no rfl)
theorem me_int {i : Int} (r : R (.dat (.int i)) b) : Me K B (tC (.int i)) δ b R := me_c (.int i) r
theorem me_str {x : Str} (r : R (.dat (.str x)) b) : Me K B (tC (.str x)) δ b R := me_c (.str x) r
theorem me_bl {c : Bool} (r : R (.dat (.bool c)) b) : Me K B (tC (.bl c)) δ b R := me_c (.bl c) r
theorem me_non (r : R (.dat .none) b) : Me K B (tC .non) δ b R := me_c .non r
/-- a constant of the module, a class -/
theorem me_mp {v : V} {P : Hp → V → Prop} (h : ∀ F, P F v) (r : R (.mp P) b) : Me K B (tC v) δ b R := fun σ F H s Q k => k v (.mp P) b F H r s.toSr (Go.refl F H) (fun F' _ => h F') (Nw.no rfl)
theorem me_dat {v : V} (h : ∀ F, Dq K F v d) (r : R (.dat d) b) : Me K B (tC v) δ b R := fun σ F H s Q k => k v (.dat d) b F H r s.toSr (Go.refl F H) (h F) (Nw.no rfl)
theorem me_op {r : R2} (h : Me K B ta δ b fun x b1 => Me K B tb δ b1 fun y b2 => OpD K B r x.fz y.fz fun e => R e b2) : Me K B (tOp r ta tb) δ b R := fun σ F H s Q k =>
  Me.run (Rest := fun x b1 => Me K B tb δ b1 fun y b2 => OpD K B r x y.fz fun e => R e b2) h s fun vx x b1 F1 H1 h1 s1 g1 d1 =>
    Me.run (Rest := fun y b2 => OpD K B r x y fun e => R e b2) h1 (s.back s1 g1) fun vy y b2 F2 H2 h2 s2 g2 d2 =>
      h2 b2 F2 H2 s2 vx vy (d1.up g2.ex) d2 Q fun v e F3 H3 r3 s3 g3 d3 a3 => k v e b2 F3 H3 r3 s3 ((g1.trans g2).trans g3) d3 (a3.back (g1.trans g2) s2)
theorem ma_nil {R : List Dv → Nat → Prop} (r : R [] b) : MA K B tNil δ b R := fun σ F H s Q k => k [] [] b F H r s.toSr (Go.refl F H) ⟨rfl, fun i v e h => by simp at h⟩
theorem DfAll.up {vs : List V} {es : List Dv} (x : Ex F F') (h : DfAll K B F vs es) : DfAll K B F' vs es := ⟨h.1, fun i v e h1 h2 => (h.2 i v e h1 h2).up x⟩
theorem DfAll.cons {v : V} {vs : List V} {es : List Dv} (h1 : Df K B F v e) (h : DfAll K B F vs es) : DfAll K B F (v :: vs) (e :: es) := by
  refine ⟨by rw [List.length_cons, List.length_cons, h.1], fun i v' e' q1 q2 => ?_⟩
  cases i with
  | zero =>
    cases q1
    cases q2
    exact h1
  | succ i => exact h.2 i v' e' q1 q2
theorem DfAll.cases {vs : List V} {es : List Dv} (h : DfAll K B F vs (e :: es)) : ∃ v r, vs = v :: r ∧ Df K B F v e ∧ DfAll K B F r es := by
  cases vs with
  | nil => exact absurd h.1 (by simp)
  | cons v r => exact ⟨v, r, rfl, h.2 0 v e rfl rfl, by simpa using h.1, fun i v' e' q1 q2 => h.2 (i + 1) v' e' q1 q2⟩
theorem DfAll.nil_of {vs : List V} (h : DfAll K B F vs []) : vs = [] := List.length_eq_zero_iff.mp (by simpa using h.1)
theorem ma_cons {tr : TA} {R : List Dv → Nat → Prop} (h : Me K B ta δ b fun x b1 => MA K B tr δ b1 fun es b2 => R (x.fz :: es) b2) : MA K B (tCons ta tr) δ b R := fun σ F H s Q k =>
  Me.run (Rest := fun x b1 => MA K B tr δ b1 fun es b2 => R (x :: es) b2) h s fun vx x b1 F1 H1 h1 s1 g1 d1 =>
    h1 σ F1 H1 (s.back s1 g1) _ fun vs es b2 F2 H2 r2 s2 g2 d2 => k (vx :: vs) (x :: es) b2 F2 H2 r2 s2 (g1.trans g2) (.cons (d1.up g2.ex) d2)
theorem me_cb {r : List V → Hp → VK → Prop} {tr : TA} (h : MA K B tr δ b fun es b1 => CallD K B r es b1 R) : Me K B (tCB r tr) δ b R := fun σ F H s Q k =>
  h σ F H s _ fun vs es b1 F1 H1 h1 s1 g1 d1 => h1 F1 H1 s1 vs d1 Q fun v e b2 F2 H2 r2 s2 g2 d2 a2 => k v e b2 F2 H2 r2 s2 (g1.trans g2) d2 (a2.back g1 s1)
/-- [..], (..) of data -/
def dats : List Dv → Option (List PyData)
  | [] => some []
  | .dat d :: r => (dats r).map (d :: ·)
  | _ => none
theorem DfAll.dq {vs : List V} : ∀ {es : List Dv} {ds : List PyData}, DfAll K B F vs es → dats es = some ds → DqAll K F vs ds := by
  intro es
  induction es generalizing vs with
  | nil =>
    intro ds h e
    cases e
    rw [h.nil_of]
    exact .nil
  | cons x r ih =>
    intro ds h e
    cases x with
    | dat d =>
      obtain ⟨v, vs', rfl, h1, h2⟩ := h.cases
      unfold dats at e
      cases q : dats r with
      | none =>
        rw [q] at e
        cases e
      | some ds' =>
        rw [q] at e
        cases e
        exact .cons h1 (ih h2 q)
    | _ => cases e
theorem me_lst {tr : TA} (h : MA K B tr δ b fun es b1 => ∃ ds, dats es = some ds ∧ es.length ≤ 100000 ∧ R (.own ds) b1) : Me K B (tLst tr) δ b R := fun σ F H s Q k =>
  h σ F H s _ fun vs es b1 F1 H1 ⟨ds, e, hl, r⟩ s1 g1 d1 => ⟨by rw [d1.1]; exact sz_of hl, fun p hp => by
    obtain ⟨s2, g2, d2, a2⟩ := s1.newL hp (d1.dq e)
    exact k (.ref p) (.own ds) b1 F1 _ r s2 (g1.trans g2) d2 (a2.back g1 s1)⟩
theorem me_tup {tr : TA} (h : MA K B tr δ b fun es b1 => ∃ ds, dats es = some ds ∧ es.length ≤ 100000 ∧ R (.dat (.tuple ds)) b1) : Me K B (tTup tr) δ b R := fun σ F H s Q k =>
  h σ F H s _ fun vs es b1 F1 H1 ⟨ds, e, hl, r⟩ s1 g1 d1 => ⟨by rw [d1.1]; exact sz_of hl, fun p hp => by
    obtain ⟨s2, g2, d2⟩ := s1.newT hp (d1.dq e)
    exact k (.ref p) (.dat (.tuple ds)) b1 _ _ r s2 (g1.trans g2) d2 (Nw.no rfl)⟩
/-! tests -/
theorem mt_test (h : Me K B te δ b fun x b1 => ∃ k, x = .dat (.bool k) ∧ S k b1) : MT K B (tTest te) δ b S := fun σ F H s Q k =>
  h σ F H s _ fun v e b1 F1 H1 ⟨c, e1, r⟩ s1 g1 d1 _ => by
    subst e1
    cases (show Dq K F1 v (.bool c) from d1)
    exact ⟨c, rfl, k c b1 F1 H1 r s1 g1⟩
theorem mt_B (h : Me K B te δ b fun x b1 => ∃ k, x = .dat (.bool k) ∧ S k b1) : MT K B (tB te) δ b S := fun σ F H s Q k =>
  h σ F H s _ fun v e b1 F1 H1 ⟨c, e1, r⟩ s1 g1 d1 _ => by
    subst e1
    cases (show Dq K F1 v (.bool c) from d1)
    exact ⟨c, rfl, k c b1 F1 H1 r s1 g1⟩
theorem mt_not (h : MT K B t δ b fun k b1 => S (!k) b1) : MT K B (tNot t) δ b S := fun σ F H s Q k => h σ F H s _ fun c b1 F1 H1 r => k (!c) b1 F1 H1 r
theorem mt_and (h : MT K B t δ b fun k b1 => (k = true → MT K B u δ b1 S) ∧ (k = false → S false b1)) : MT K B (tAnd t u) δ b S := fun σ F H s Q k => h σ F H s _ fun c b1 F1 H1 ⟨h1, h2⟩ s1 g1 => by
  cases c with
  | true =>
    rw [if_pos rfl]
    exact h1 rfl σ F1 H1 (s.back s1 g1) Q fun c2 b2 F2 H2 r2 s2 g2 => k c2 b2 F2 H2 r2 s2 (g1.trans g2)
  | false =>
    rw [if_neg Bool.false_ne_true]
    exact k false b1 F1 H1 (h2 rfl) s1 g1
theorem mt_or (h : MT K B t δ b fun k b1 => (k = false → MT K B u δ b1 S) ∧ (k = true → S true b1)) : MT K B (tOr t u) δ b S := fun σ F H s Q k => h σ F H s _ fun c b1 F1 H1 ⟨h1, h2⟩ s1 g1 => by
  cases c with
  | false =>
    rw [if_neg Bool.false_ne_true]
    exact h1 rfl σ F1 H1 (s.back s1 g1) Q fun c2 b2 F2 H2 r2 s2 g2 => k c2 b2 F2 H2 r2 s2 (g1.trans g2)
  | true =>
    rw [if_pos rfl]
    exact k true b1 F1 H1 (h2 rfl) s1 g1
theorem mt_yes (r : S true b) : MT K B tYes δ b S := fun σ F H s Q k => k true b F H r s.toSr (Go.refl F H)
theorem Me.back {F1 H1 : Hp} {b1 : Nat} (h : Me K B te δ b1 R) (s : Sd K B δ b σ F H) (s1 : Sr K B b1 F1 H1) (g1 : Go B F H F1 H1) {Q : VK} (k : ∀ v e b' F' H', R e b' → Sr K B b' F' H' → Go B F H F' H' → Dr K B F' H' v e → Nw H v e → Q v H') : te σ H1 Q :=
  h σ F1 H1 (s.back s1 g1) Q fun v e b2 F2 H2 r2 s2 g2 d2 a2 => k v e b2 F2 H2 r2 s2 (g1.trans g2) d2 (a2.back g1 s1)
theorem me_if (h : MT K B t δ b fun k b1 => (k = true → Me K B ta δ b1 R) ∧ (k = false → Me K B tb δ b1 R)) : Me K B (tIf t ta tb) δ b R := fun σ F H s Q k => h σ F H s _ fun c b1 F1 H1 ⟨h1, h2⟩ s1 g1 => by
  cases c with
  | true =>
    rw [if_pos rfl]
    exact (h1 rfl).back s s1 g1 k
  | false =>
    rw [if_neg Bool.false_ne_true]
    exact (h2 rfl).back s s1 g1 k
theorem me_and (h : Me K B ta δ b fun x b1 => ∃ k, x = .dat (.bool k) ∧ (k = true → Me K B tb δ b1 R) ∧ (k = false → R (.dat (.bool false)) b1)) : Me K B (tAndV ta tb) δ b R := fun σ F H s Q k =>
  h σ F H s _ fun v e b1 F1 H1 ⟨c, e1, h1, h2⟩ s1 g1 d1 _ => by
    subst e1
    cases (show Dq K F1 v (.bool c) from d1)
    refine ⟨c, rfl, ?_⟩
    cases c with
    | true =>
      rw [if_pos rfl]
      exact (h1 rfl).back s s1 g1 k
    | false =>
      rw [if_neg Bool.false_ne_true]
      exact k _ _ b1 F1 H1 (h2 rfl) s1 g1 (.bl false) (Nw.no rfl)
theorem me_or (h : Me K B ta δ b fun x b1 => ∃ k, x = .dat (.bool k) ∧ (k = false → Me K B tb δ b1 R) ∧ (k = true → R (.dat (.bool true)) b1)) : Me K B (tOrV ta tb) δ b R := fun σ F H s Q k =>
  h σ F H s _ fun v e b1 F1 H1 ⟨c, e1, h1, h2⟩ s1 g1 d1 _ => by
    subst e1
    cases (show Dq K F1 v (.bool c) from d1)
    refine ⟨c, rfl, ?_⟩
    cases c with
    | false =>
      rw [if_neg Bool.false_ne_true]
      exact (h1 rfl).back s s1 g1 k
    | true =>
      rw [if_pos rfl]
      exact k _ _ b1 F1 H1 (h2 rfl) s1 g1 (.bl true) (Nw.no rfl)
theorem me_not (h : Me K B ta δ b fun x b1 => ∃ k, x = .dat (.bool k) ∧ R (.dat (.bool !k)) b1) : Me K B (tNotV ta) δ b R := fun σ F H s Q k =>
  h σ F H s _ fun v e b1 F1 H1 ⟨c, e1, h1⟩ s1 g1 d1 _ => by
    subst e1
    cases (show Dq K F1 v (.bool c) from d1)
    exact ⟨c, rfl, k _ _ b1 F1 H1 h1 s1 g1 (.bl _) (Nw.no rfl)⟩
end
end Dl
set_option Elab.async false
set_option linter.all false
set_option maxRecDepth 100000
set_option maxHeartbeats 4000000
/-! the data level: statements, loops, comprehensions, calls -/
namespace Dl
open PySem PySem.Spec PyProof.Rows L2 Evl Gd LamX
section
variable (K : PySem.W.Frag) (B : Base)
/-- what follows, from where F stood -/
structure EdTo (F : Hp) (E : Ed) (D : Ends) : Prop where
  nx : ∀ δ b σ F' H', E.nx δ b → Sd K B δ b σ F' H' → Ex F F' → D.nx σ H'
  rt : ∀ v e b F' H', E.rt e b → Sr K B b F' H' → Ex F F' → Dr K B F' H' v e → D.rt v H'
  bk : ∀ δ b σ F' H', E.bk δ b → Sd K B δ b σ F' H' → Ex F F' → D.bk σ H'
  ct : ∀ δ b σ F' H', E.ct δ b → Sd K B δ b σ F' H' → Ex F F' → D.ct σ H'
def Mz (ts : TS) (δ : Env) (b : Nat) (E : Ed) : Prop := ∀ σ F H, Sd K B δ b σ F H → ∀ D : Ends, EdTo K B F E D → ts D σ H
/-- the walked thing: J goes over ds -/
def WalkD (F : Hp) (J : It) (ds : List PyData) : Prop := ∃ (G : Hp → Prop) (Y : Nat → Hp → V → Hp → Prop), Walk J ds.length G Y ∧ (∀ b2 F2 H2, Ex F F2 → Sr K B b2 F2 H2 → G H2) ∧
  ∀ i v b2 F2 H2 H3 d, Ex F F2 → Sr K B b2 F2 H2 → Y i H2 v H3 → ds[i]? = some d → ∃ F3, Sr K B b2 F3 H3 ∧ Go B F2 H2 F3 H3 ∧ Dq K F3 v d
def Mi (wi : TI) (δ : Env) (b : Nat) (R : List PyData → Nat → Prop) : Prop := ∀ σ F H, Sd K B δ b σ F H → ∀ Rr : It → Hp → Prop,
  (∀ J ds b' F' H', R ds b' → Sr K B b' F' H' → Go B F H F' H' → WalkD K B F' J ds → Rr J H') → wi σ H Rr
end
section
variable {K : PySem.W.Frag} {B : Base} {F F' H H' : Hp} {v : V} {e : Dv} {δ : Env} {b : Nat} {σ : L2.St} {d : PyData} {ds : List PyData} {ta tb te : TE} {t u : TT} {R : Dv → Nat → Prop} {S : Bool → Nat → Prop} {E : Ed} {D : Ends} {s1 s2 : TS} {g : TG}
theorem EdTo.up (x : Ex F F') (h : EdTo K B F E D) : EdTo K B F' E D :=
  ⟨fun δ b σ F2 H2 e s y => h.nx δ b σ F2 H2 e s (x.trans y), fun v e' b F2 H2 e s y => h.rt v e' b F2 H2 e s (x.trans y), fun δ b σ F2 H2 e s y => h.bk δ b σ F2 H2 e s (x.trans y), fun δ b σ F2 H2 e s y => h.ct δ b σ F2 H2 e s (x.trans y)⟩
theorem Mz.mono {E' : Ed} (h : Mz K B s1 δ b E) (h1 : ∀ δ b, E.nx δ b → E'.nx δ b) (h2 : ∀ e b, E.rt e b → E'.rt e b) (h3 : ∀ δ b, E.bk δ b → E'.bk δ b) (h4 : ∀ δ b, E.ct δ b → E'.ct δ b) : Mz K B s1 δ b E' := fun σ F H s D d =>
  h σ F H s D ⟨fun δ b σ F2 H2 e => d.nx δ b σ F2 H2 (h1 _ _ e), fun v e' b F2 H2 e => d.rt v e' b F2 H2 (h2 _ _ e), fun δ b σ F2 H2 e => d.bk δ b σ F2 H2 (h3 _ _ e), fun δ b σ F2 H2 e => d.ct δ b σ F2 H2 (h4 _ _ e)⟩
theorem mz_seq (h : Mz K B s1 δ b { E with nx := fun δ' b' => Mz K B s2 δ' b' E }) : Mz K B (tSeq s1 s2) δ b E := fun σ F H s D d =>
  h σ F H s { D with nx := s2 D } ⟨fun δ' b' σ' F' H' m s' x => m σ' F' H' s' D (d.up x), d.rt, d.bk, d.ct⟩
theorem mz_next (h : E.nx δ b) : Mz K B tNext δ b E := fun σ F H s D d => d.nx δ b σ F H h s (Ex.refl F)
theorem mz_break (h : E.bk δ b) : Mz K B tBreak δ b E := fun σ F H s D d => d.bk δ b σ F H h s (Ex.refl F)
theorem mz_cont (h : E.ct δ b) : Mz K B tCont δ b E := fun σ F H s D d => d.ct δ b σ F H h s (Ex.refl F)
theorem mz_if {c : TT} (h : MT K B c δ b fun k b1 => (k = true → Mz K B s1 δ b1 E) ∧ (k = false → Mz K B s2 δ b1 E)) : Mz K B (tIfS c s1 s2) δ b E := fun σ F H s D d =>
  h σ F H s _ fun k b1 F1 H1 ⟨h1, h2⟩ r1 g1 => by
    cases k with
    | true =>
      rw [if_pos rfl]
      exact h1 rfl σ F1 H1 (s.back r1 g1) D (d.up g1.ex)
    | false =>
      rw [if_neg Bool.false_ne_true]
      exact h2 rfl σ F1 H1 (s.back r1 g1) D (d.up g1.ex)
theorem mz_ret (h : Me K B te δ b E.rt) : Mz K B (tRet te) δ b E := fun σ F H s D d =>
  h σ F H s _ fun v e b1 F1 H1 r r1 g1 d1 _ => d.rt v e b1 F1 H1 r r1 g1.ex d1
theorem mz_retO {i : Nat} (h : E.rt e b) (hi : δ[i]? = some (some e) := by rfl) : Mz K B (tRet (tVar i)) δ b E := fun σ F H s D d => by
  obtain ⟨v, h1, h2⟩ := s.at_ i e hi
  exact ⟨v, h1, d.rt v e b F H h s.toSr (Ex.refl F) h2⟩
theorem mz_drop (h : Me K B te δ b fun _ b1 => E.nx δ b1) : Mz K B (tDrop te) δ b E := fun σ F H s D d =>
  h σ F H s _ fun v e b1 F1 H1 r r1 g1 d1 _ => d.nx δ b1 σ F1 H1 r (s.back r1 g1) g1.ex
/-! targets -/
theorem Sd.set (s : Sd K B δ b σ F H) (i : Nat) (h : Dr K B F H v e) (n : e.isOwn = true → ∀ (j : Nat) (ej : Dv), δ[j]? = some (some ej) → ej.isOwn = true → σ[j]? ≠ some (some v)) : Sd K B (δ.set i (some e)) b (σ.set i (some v)) F H where
  toSr := s.toSr
  len := by rw [List.length_set, List.length_set, s.len]
  at_ := fun j e' h' => by
    by_cases q : i = j
    · subst q
      have hl : i < δ.length := by
        have := (List.getElem?_eq_some_iff.mp h').1
        rwa [List.length_set] at this
      rw [List.getElem?_set_self hl] at h'
      cases h'
      exact ⟨v, List.getElem?_set_self (by rw [← s.len]; exact hl), h⟩
    · rw [List.getElem?_set_ne q] at h'
      rw [List.getElem?_set_ne q]
      exact s.at_ j e' h'
  apart := fun j k ej ek w ne hj hk oj ok ej' ek' => by
    by_cases qj : i = j
    · subst qj
      have hl : i < δ.length := by
        have := (List.getElem?_eq_some_iff.mp hj).1
        rwa [List.length_set] at this
      rw [List.getElem?_set_self hl] at hj
      cases hj
      rw [List.getElem?_set_self (by rw [← s.len]; exact hl)] at ej'
      cases ej'
      rw [List.getElem?_set_ne ne] at hk ek'
      exact n oj k ek hk ok ek'
    · rw [List.getElem?_set_ne qj] at hj ej'
      by_cases qk : i = k
      · subst qk
        have hl : i < δ.length := by
          have := (List.getElem?_eq_some_iff.mp hk).1
          rwa [List.length_set] at this
        rw [List.getElem?_set_self hl] at hk
        cases hk
        rw [List.getElem?_set_self (by rw [← s.len]; exact hl)] at ek'
        cases ek'
        exact n ok j ej hj oj ej'
      · rw [List.getElem?_set_ne qk] at hk ek'
        exact s.apart j k ej ek w ne hj hk oj ok ej' ek'
/-- a slot is forgotten -/
theorem Sd.forget (s : Sd K B δ b σ F H) (i : Nat) (o : Option V) : Sd K B (δ.set i none) b (σ.set i o) F H where
  toSr := s.toSr
  len := by rw [List.length_set, List.length_set, s.len]
  at_ := fun j e' h' => by
    by_cases q : i = j
    · subst q
      have hl : i < δ.length := by
        have := (List.getElem?_eq_some_iff.mp h').1
        rwa [List.length_set] at this
      rw [List.getElem?_set_self hl] at h'
      cases h'
    · rw [List.getElem?_set_ne q] at h'
      rw [List.getElem?_set_ne q]
      exact s.at_ j e' h'
  apart := fun j k ej ek w ne hj hk oj ok ej' ek' => by
    have z : ∀ (m : Nat) (em : Dv), (δ.set i none)[m]? = some (some em) → i ≠ m := fun m em h q => by
      subst q
      have hl : i < δ.length := by
        have := (List.getElem?_eq_some_iff.mp h).1
        rwa [List.length_set] at this
      rw [List.getElem?_set_self hl] at h
      cases h
    have qj := z j ej hj
    have qk := z k ek hk
    rw [List.getElem?_set_ne qj] at hj ej'
    rw [List.getElem?_set_ne qk] at hk ek'
    exact s.apart j k ej ek w ne hj hk oj ok ej' ek'
/-- less is known -/
theorem Sd.less {δ' : Env} (s : Sd K B δ b σ F H) (hl : δ'.length = δ.length) (h : ∀ (i : Nat) (e : Dv), δ'[i]? = some (some e) → δ[i]? = some (some e)) : Sd K B δ' b σ F H where
  toSr := s.toSr
  len := hl.trans s.len
  at_ := fun i e h' => s.at_ i e (h i e h')
  apart := fun i j ei ej v n h1 h2 => s.apart i j ei ej v n (h i ei h1) (h j ej h2)
theorem mg_name {i : Nat} {P : Env → Prop} (r : P (δ.set i (some e))) : Mg K B (gName i) e δ b P := fun σ F H s v h n Q k => k _ _ r (s.set i h n)
theorem mz_asg (h : Me K B te δ b fun e b1 => Mg K B g e δ b1 fun δ' => E.nx δ' b1) : Mz K B (tAsg te g) δ b E := fun σ F H s D d =>
  h σ F H s _ fun v e b1 F1 H1 m r1 g1 d1 n1 => m σ F1 H1 (s.back r1 g1) v d1 (fun o i ei h1 h2 z => by
    obtain ⟨p, e1, e2⟩ := n1 o
    rw [e1] at z
    exact s.frsl e2 i ei h1 h2 z) D.nx fun δ' σ' r s' => d.nx δ' b1 σ' F1 H1 r s' g1.ex
/-- frozen as it is assigned -/
theorem mz_asgF (h : Me K B te δ b fun e b1 => Mg K B g e.fz δ b1 fun δ' => E.nx δ' b1) : Mz K B (tAsg te g) δ b E := fun σ F H s D d =>
  Me.run (Rest := fun e b1 => Mg K B g e δ b1 fun δ' => E.nx δ' b1) h s fun v e b1 F1 H1 m r1 g1 d1 => m σ F1 H1 (s.back r1 g1) v (Dr.of d1) (fun o => by
    rw [d1.notOwn] at o
    cases o) D.nx fun δ' σ' r s' => d.nx δ' b1 σ' F1 H1 r s' g1.ex
/-- one name -/
theorem mz_set {i : Nat} (h : Me K B te δ b fun e b1 => E.nx (δ.set i (some e)) b1) : Mz K B (tAsg te (gName i)) δ b E := mz_asg (h.mono fun e b1 r => mg_name r)
theorem mz_setF {i : Nat} (h : Me K B te δ b fun e b1 => E.nx (δ.set i (some e.fz)) b1) : Mz K B (tAsg te (gName i)) δ b E := mz_asgF (h.mono fun e b1 r => mg_name r)
/-- (a, b, ..): each a name -/
def setAll : Env → List Nat → List PyData → Env
  | δ, i :: is, d :: ds => setAll (δ.set i (some (.dat d))) is ds
  | δ, _, _ => δ
def gNames : List Nat → TGs
  | [] => gNil
  | i :: is => gCons (gName i) (gNames is)
theorem mgs_names : ∀ (is : List Nat) {δ : Env} {σ : L2.St} {vs : List V} {ds : List PyData} {P : Env → Prop} {Q : L2.St → Hp → Prop}, Sd K B δ b σ F H → DqAll K F vs ds → is.length = ds.length → P (setAll δ is ds) → (∀ δ' σ', P δ' → Sd K B δ' b σ' F H → Q σ' H) → gNames is vs σ H Q
  | [], δ, σ, vs, ds, P, Q, s, hd, hi, r, k => by
    have e : ds = [] := List.length_eq_zero_iff.mp hi.symm
    subst e
    cases hd
    exact ⟨rfl, k _ _ r s⟩
  | i :: is, δ, σ, vs, ds, P, Q, s, hd, hi, r, k => by
    cases ds with
    | nil => cases hi
    | cons d ds =>
      cases hd with
      | cons h1 h2 => exact ⟨_, _, rfl, mgs_names is (δ := δ.set i (some (.dat d))) (s.set i (e := .dat d) h1 (fun o => by cases o)) h2 (by simpa using hi) r k⟩
theorem mg_names {n : Nat} {is : List Nat} {ds : List PyData} {P : Env → Prop} (hn : ds.length = n) (hi : is.length = n) (r : P (setAll δ is ds)) : Mg K B (gTup K n (gNames is)) (.dat (.tuple ds)) δ b P := fun σ F H s v h _ Q k => by
  have h' : Dq K F v (.tuple ds) := h
  cases h' with
  | @tup a vs _ hs hd => exact ⟨a, vs, rfl, lk_t s.lk (.inl hs), by rw [hd.len, hn], mgs_names is s hd (by rw [hi, hn]) r k⟩
/-! walks -/
theorem WalkD.list {p : Addr} {vs : List V} (h : SqL K F p vs) (hd : DqAll K F vs ds) : WalkD K B F (Itl K p) ds := by
  refine ⟨fun H2 => SqL K H2 p vs, YAt vs, hd.len ▸ walk_list, fun b2 F2 H2 x s => lk_l s.lk (ex_l x h), fun i v b2 F2 H2 H3 d x s y hi => ?_⟩
  obtain ⟨rfl, hv⟩ := y
  obtain ⟨v', e, hq⟩ := hd.get i d hi
  rw [hv] at e
  cases e
  exact ⟨F2, s, Go.refl _ _, hq.up x⟩
theorem WalkD.tup {p : Addr} {vs : List V} (h : SqT K F p vs) (hd : DqAll K F vs ds) : WalkD K B F (Itt K p) ds := by
  refine ⟨fun H2 => SqT K H2 p vs, YAt vs, hd.len ▸ walk_tup, fun b2 F2 H2 x s => lk_t s.lk (ex_t x h), fun i v b2 F2 H2 H3 d x s y hi => ?_⟩
  obtain ⟨rfl, hv⟩ := y
  obtain ⟨v', e, hq⟩ := hd.get i d hi
  rw [hv] at e
  cases e
  exact ⟨F2, s, Go.refl _ _, hq.up x⟩
theorem mi_list {tl : TE} {R : List PyData → Nat → Prop} (h : Me K B tl δ b fun x b1 => ∃ ds, x.fz = .dat (.list ds) ∧ R ds b1) : Mi K B (iList K tl) δ b R := fun σ F H s Rr k =>
  Me.run (Rest := fun x b1 => ∃ ds, x = .dat (.list ds) ∧ R ds b1) h s fun v x b1 F1 H1 ⟨ds, e, r⟩ r1 g1 d1 => by
    subst e
    have d1 : Dq K F1 v (.list ds) := d1
    cases d1 with
    | @lst p vs _ hs hd => exact ⟨p, rfl, ⟨vs, lk_l r1.lk (.inl hs)⟩, k _ ds b1 F1 H1 r r1 g1 (.list (.inl hs) hd)⟩
theorem mi_tup {tl : TE} {R : List PyData → Nat → Prop} (h : Me K B tl δ b fun x b1 => ∃ ds, x = .dat (.tuple ds) ∧ R ds b1) : Mi K B (iTup K tl) δ b R := fun σ F H s Rr k =>
  h σ F H s _ fun v x b1 F1 H1 ⟨ds, e, r⟩ r1 g1 d1 _ => by
    subst e
    have d1 : Dq K F1 v (.tuple ds) := d1
    cases d1 with
    | @tup p vs _ hs hd => exact ⟨p, rfl, ⟨vs, lk_t r1.lk (.inl hs)⟩, k _ ds b1 F1 H1 r r1 g1 (.tup (.inl hs) hd)⟩
def intsD (lo : Int) (n : Nat) : List PyData := (List.range n).map fun (i : Nat) => PyData.int (lo + (i : Int))
theorem intsD_len {lo : Int} {n : Nat} : (intsD lo n).length = n := by simp [intsD]
theorem WalkD.rng {lo : Int} {n : Nat} : WalkD K B F (Itr lo n) (intsD lo n) := by
  refine ⟨fun _ => True, YFn fun i => .int (lo + (i : Int)), (intsD_len (lo := lo) (n := n)).symm ▸ walk_range, fun _ _ _ _ _ => True.intro, fun i v b2 F2 H2 H3 d x s y hi => ?_⟩
  obtain ⟨rfl, rfl⟩ := y
  unfold intsD at hi
  rw [List.getElem?_map] at hi
  cases q : (List.range n)[i]? with
  | none =>
    rw [q] at hi
    cases hi
  | some j =>
    rw [q] at hi
    cases hi
    have : j = i := by
      have := (List.getElem?_eq_some_iff.mp q).2
      simpa using this.symm
    subst this
    exact ⟨F2, s, Go.refl _ _, .int _⟩
theorem mi_rng {ta : TA} {R : List PyData → Nat → Prop} (h : MA K B ta δ b fun es b1 => ∃ n : Int, es = [.dat (.int n)] ∧ n ≤ 100000 ∧ -100000 ≤ n ∧ R (intsD 0 n.toNat) b1) : Mi K B (iRng1 ta) δ b R := fun σ F H s Rr k =>
  h σ F H s _ fun vs es b1 F1 H1 ⟨n, e, h1, h2, r⟩ r1 g1 d1 => by
    subst e
    obtain ⟨v, r', rfl, q1, q2⟩ := d1.cases
    rw [q2.nil_of]
    have q1 : Dq K F1 v (.int n) := q1
    cases q1
    exact ⟨n, rfl, by omega, by omega, k _ _ b1 F1 H1 r r1 g1 .rng⟩
/-- at a state, J walked -/
def iJ (J : It) : TI := fun _ H R => R J H
theorem for_st {J : It} (s : Sd K B δ b σ F H) (wd : WalkD K B F J ds) (IV : Nat → Env → Nat → Prop) (h0 : IV 0 δ b)
      (hs : ∀ i d δ' b', ds[i]? = some d → IV i δ' b' → Mg K B g (.dat d) δ' b' fun δ2 => Mz K B s1 δ2 b' { E with nx := IV (i + 1), ct := IV (i + 1), bk := E.nx }) (he : ∀ δ' b', IV ds.length δ' b' → E.nx δ' b') (dd : EdTo K B F E D) : tFor (iJ J) g s1 D σ H := by
  obtain ⟨G, Y, w, hG, hY⟩ := wd
  refine for_it w (fun i σ' H' => ∃ δ' b' F', IV i δ' b' ∧ Sd K B δ' b' σ' F' H' ∧ Ex F F') ⟨δ, b, F, h0, s, Ex.refl F⟩ ?_ ?_ ?_
  · rintro i σ' H' _ ⟨δ', b', F', _, s', x⟩
    exact hG b' F' H' x s'.toSr
  · rintro i v σ' H2 H3 hi ⟨δ', b', F', q, s', x⟩ y
    obtain ⟨F3, r3, g3, d3⟩ := hY i v b' F' H2 H3 ds[i] x s'.toSr y (List.getElem?_eq_getElem hi)
    have s3 := s'.back r3 g3
    refine hs i ds[i] δ' b' (List.getElem?_eq_getElem hi) q σ' F3 H3 s3 v d3 (fun o => by cases o) _ fun δ2 σ2 m s2 => ?_
    have x3 : Ex F F3 := x.trans g3.ex
    exact m σ2 F3 H3 s2 _ ⟨fun δ4 b4 σ4 F4 H4 q4 s4 x4 => ⟨δ4, b4, F4, q4, s4, x3.trans x4⟩, fun v e b4 F4 H4 q4 s4 x4 => dd.rt v e b4 F4 H4 q4 s4 (x3.trans x4),
      fun δ4 b4 σ4 F4 H4 q4 s4 x4 => dd.nx δ4 b4 σ4 F4 H4 q4 s4 (x3.trans x4), fun δ4 b4 σ4 F4 H4 q4 s4 x4 => ⟨δ4, b4, F4, q4, s4, x3.trans x4⟩⟩
  · rintro σ' H' ⟨δ', b', F', q, s', x⟩
    exact dd.nx δ' b' σ' F' H' (he δ' b' q) s' x
theorem mz_for {wi : TI} (h : Mi K B wi δ b fun ds b1 => ∃ IV : Nat → Env → Nat → Prop, IV 0 δ b1 ∧
      (∀ i d δ' b', ds[i]? = some d → IV i δ' b' → Mg K B g (.dat d) δ' b' fun δ2 => Mz K B s1 δ2 b' { E with nx := IV (i + 1), ct := IV (i + 1), bk := E.nx }) ∧ (∀ δ' b', IV ds.length δ' b' → E.nx δ' b')) : Mz K B (tFor wi g s1) δ b E := fun σ F H s D dd =>
  h σ F H s _ fun J ds b1 F1 H1 ⟨IV, h0, hs, he⟩ r1 g1 wd => for_st (s.back r1 g1) wd IV h0 hs he (dd.up g1.ex)
/-! comprehensions -/
def wipeE (δ : Env) : List Nat → Env
  | [] => δ
  | v :: vs => (wipeE δ vs).set v none
theorem Sd.wiped (s : Sd K B δ b σ F H) : ∀ vs : List Nat, Sd K B (wipeE δ vs) b (wipe σ vs) F H
  | [] => s
  | v :: vs => (Sd.wiped s vs).forget v none
/-- the list at p, of the comprehension alone -/
theorem lc_st {J : It} {vs : List Nat} {R : Dv → Nat → Prop} {Q : VK} (s : Sd K B δ b σ F H) (wd : WalkD K B F J ds) (hz : ds.length ≤ 100000) (IV : Nat → List PyData → Nat → Prop) (h0 : IV 0 [] b)
      (hs : ∀ i d acc b', ds[i]? = some d → acc.length ≤ i → IV i acc b' → ∀ σ0 F H, Sd K B (wipeE δ vs) b' (wipe σ0 vs) F H → ∀ v, Dq K F v d → ∀ Q : L2.St → Hp → Prop, (∀ δ2 σ2, Sd K B δ2 b' σ2 F H → wipe σ2 vs = wipe σ0 vs →
        MT K B t δ2 b' (fun k b2 => (k = true → Me K B te δ2 b2 fun y b3 => ∃ z, y.fz = .dat z ∧ IV (i + 1) (acc ++ [z]) b3) ∧ (k = false → IV (i + 1) acc b2)) → Q σ2 H) → g v (wipe σ0 vs) H Q)
      (he : ∀ acc b', IV ds.length acc b' → R (.own acc) b') (k : ∀ v e b' F' H', R e b' → Sr K B b' F' H' → Go B F H F' H' → Dr K B F' H' v e → Nw H v e → Q v H') : tLc (iJ J) g t te vs σ H Q := by
  obtain ⟨G, Y, w, hG, hY⟩ := wd
  intro p hp
  have hF1 := s.toSr.non hp
  have h00 := s.toSr.h0 hp
  refine lc_it w (fun i H' => ∃ acc vs' b' F', IV i acc b' ∧ acc.length ≤ i ∧ Sr K B b' F' H' ∧ Go B F H F' H' ∧ F' p = none ∧ H' p = some (.lst vs') ∧ DqAll K F' vs' acc)
    ⟨[], [], b, F, h0, Nat.le_refl _, s.toSr.grow (Ex.new hp), Go.of_ex (Ex.new hp), hF1, upd_same, .nil⟩ ?_ ?_ ?_
  · rintro i H' _ ⟨acc, vs', b', F', _, _, r', g', _⟩
    exact hG b' F' H' g'.ex r'
  · rintro i v H2 H3 hi ⟨acc, vs', b', F', q, ha, r', g', nF, hH, hd⟩ y
    obtain ⟨F3, r3, g3, d3⟩ := hY i v b' F' H2 H3 ds[i] g'.ex r' y (List.getElem?_eq_getElem hi)
    have cold := own_cold r' h00
    have hH3 := g3.kp p _ hH cold
    have nF3 := r3.noT (g3.nw p (by rw [hH]; exact fun z => nomatch z) nF cold) hH3 (fun _ z => nomatch z)
    have g13 := g'.trans g3
    have s3 := (s.back r3 g13).wiped vs
    refine hs i ds[i] acc b' (List.getElem?_eq_getElem hi) ha q σ F3 H3 s3 v d3 _ fun δ2 σ2 s2 hw m => ⟨hw, ?_⟩
    refine m σ2 F3 H3 s2 _ fun c b4 F4 H4 ⟨m1, m2⟩ r4 g4 => ?_
    have hH4 := g4.kp p _ hH3 cold
    have nF4 := r4.noT (g4.nw p (by rw [hH3]; exact fun z => nomatch z) nF3 cold) hH4 (fun _ z => nomatch z)
    cases c with
    | true =>
      rw [if_pos rfl]
      refine Me.run (Rest := fun y b3 => ∃ z, y = .dat z ∧ IV (i + 1) (acc ++ [z]) b3) (m1 rfl) (s2.back r4 g4) fun w y b5 F5 H5 ⟨z, e5, q5⟩ r5 g5 d5 => ?_
      subst e5
      have hH5 := g5.kp p _ hH4 cold
      have nF5 := r5.noT (g5.nw p (by rw [hH4]; exact fun z => nomatch z) nF4 cold) hH5 (fun _ z => nomatch z)
      have hl := hd.len
      have g35 := (g13.trans g4).trans g5
      refine ⟨vs', hH5, sz_lt (by omega), acc ++ [z], vs' ++ [w], b5, F5, q5, by rw [List.length_append, List.length_singleton]; omega, ?_, ?_, nF5, upd_same, ?_⟩
      · -- the list was written
        refine { le := fun a u h' => ?_, nfz := r5.nfz, ntb := r5.ntb, ex0 := r5.ex0, fr := fun a o h1 h2 h3 => ?_, dom := fun a h1 => ?_, frN := r5.frN, free := fun f a u h' l => ?_, lkd := fun q hq => ?_, tabs := ?_, tb0 := r5.tb0, pen := fun q a ns h' => ?_ }
        · have e : a ≠ p := fun z => by rw [z, nF5] at h'; cases h'
          rw [upd_ne e]
          exact r5.le a u h'
        · have e : a ≠ p := fun z => by rw [z, h00] at h1; cases h1
          rw [upd_ne e]
          exact r5.fr a o h1 h2 h3
        · have e : a ≠ p := fun z => h1 (by rw [z, h00])
          rw [upd_ne e]
          exact r5.dom a h1
        · have e : a ≠ p := fun z => by rw [z, nF5] at h'; cases h'
          rw [upd_ne e]
          exact r5.free f a u h' l
        · obtain ⟨u, k2, k3, k4⟩ := r5.lkd q hq
          have e : q.1 ≠ p := fun z => by rw [z, nF5] at k4; cases k4
          exact ⟨u, k2, by rw [upd_ne e]; exact k3, k4⟩
        · intro q hq
          obtain ⟨ps, t1, t2, t3⟩ := r5.tabs q hq
          have e : q.1 ≠ p := fun z => (r5.tb0 q hq).1 (by rw [z, h00])
          refine ⟨ps, by rw [upd_ne e]; exact t1, t2, fun pos cv hc => ?_⟩
          obtain ⟨c, c1, c2⟩ := t3 pos cv hc
          have e2 : c ≠ p := fun z => by
            rw [z, hH5] at c2
            unfold CodeO at c2
            cases c2
          exact ⟨c, c1, by rw [upd_ne e2]; exact c2⟩
        · obtain ⟨k1, k2, k3, k4, i', d', k5, k6⟩ := r5.pen q a ns h'
          have e : q ≠ p := fun z => k1 (by rw [z, h00])
          exact ⟨k1, k2, k3, k4, i', d', by rw [upd_ne e]; exact k5, k6⟩
      · refine ⟨g35.ex, fun a o h1 h2 => ?_, g35.nw⟩
        have e : a ≠ p := ne_of_none h1 hp
        rw [upd_ne e]
        exact g35.kp a o h1 h2
      · exact DqAll.snoc (hd.up (g3.ex.trans (g4.ex.trans g5.ex))) d5
    | false =>
      rw [if_neg Bool.false_ne_true]
      exact ⟨acc, vs', b4, F4, m2 rfl, by omega, r4, g13.trans g4, nF4, hH4, hd.up (g3.ex.trans g4.ex)⟩
  · rintro H' ⟨acc, vs', b', F', q, _, r', g', nF, hH, hd⟩
    exact k (.ref p) (.own acc) b' F' H' (he acc b' q) r' g' ⟨p, vs', rfl, h00, nF, hH, hd⟩ fun _ => ⟨p, rfl, hp⟩
theorem me_lc {wi : TI} {vs : List Nat} (h : Mi K B wi δ b fun ds b1 => ds.length ≤ 100000 ∧ ∃ IV : Nat → List PyData → Nat → Prop, IV 0 [] b1 ∧
      (∀ i d acc b', ds[i]? = some d → acc.length ≤ i → IV i acc b' → ∀ σ F H, Sd K B (wipeE δ vs) b' (wipe σ vs) F H → ∀ v, Dq K F v d → ∀ Q : L2.St → Hp → Prop, (∀ δ2 σ2, Sd K B δ2 b' σ2 F H → wipe σ2 vs = wipe σ vs →
        MT K B t δ2 b' (fun k b2 => (k = true → Me K B te δ2 b2 fun y b3 => ∃ z, y.fz = .dat z ∧ IV (i + 1) (acc ++ [z]) b3) ∧ (k = false → IV (i + 1) acc b2)) → Q σ2 H) → g v (wipe σ vs) H Q) ∧
      (∀ acc b', IV ds.length acc b' → R (.own acc) b')) : Me K B (tLc wi g t te vs) δ b R := fun σ F H s Q k =>
  h σ F H s _ fun J ds b1 F1 H1 ⟨hz, IV, h0, hs, he⟩ r1 g1 wd => lc_st (s.back r1 g1) wd hz IV h0 hs he fun v e b' F' H' r s' g d n => k v e b' F' H' r s' (g1.trans g) d (n.back g1 r1)
end
end Dl
set_option Elab.async false
set_option linter.all false
set_option maxRecDepth 100000
set_option maxHeartbeats 4000000
/-! the data level: comprehensions by names, defs, owned lists -/
namespace Dl
open PySem PySem.Spec PyProof.Rows L2 Evl Gd LamX
theorem wipe_set (σ : L2.St) (j : Nat) (x : Option V) : ∀ vs : List Nat, wipe (σ.set j x) vs = if j ∈ vs then wipe σ vs else (wipe σ vs).set j x
  | [] => by simp [wipe]
  | v :: vs => by
    unfold wipe
    rw [wipe_set σ j x vs]
    by_cases h : j ∈ vs
    · rw [if_pos h, if_pos (List.mem_cons_of_mem _ h)]
    · rw [if_neg h]
      by_cases e : j = v
      · subst e
        rw [if_pos List.mem_cons_self, List.set_set]
      · rw [if_neg (by simp [e, h]), List.set_comm _ _ e]
theorem wipe_in {σ : L2.St} {j : Nat} {x : Option V} {vs : List Nat} (h : j ∈ vs) : wipe (σ.set j x) vs = wipe σ vs := by rw [wipe_set, if_pos h]
theorem wipe_idem (σ : L2.St) : ∀ (vs ws : List Nat), (∀ v ∈ vs, v ∈ ws) → wipe (wipe σ vs) ws = wipe σ ws
  | [], _, _ => rfl
  | v :: vs, ws, h => by
    show wipe ((wipe σ vs).set v none) ws = wipe σ ws
    rw [wipe_in (h v List.mem_cons_self)]
    exact wipe_idem σ vs ws fun w hw => h w (List.mem_cons_of_mem _ hw)
section
variable {K : PySem.W.Frag} {B : Base} {F F' H H' : Hp} {v : V} {e : Dv} {δ : Env} {b : Nat} {σ : L2.St} {d : PyData} {ds : List PyData} {ta tb te : TE} {t u : TT} {R : Dv → Nat → Prop} {S : Bool → Nat → Prop} {E : Ed} {D : Ends} {s1 s2 : TS} {g : TG}
/-- [e for x in ..]: x in slot j -/
theorem me_lcN {wi : TI} {vs : List Nat} {j : Nat} (h : Mi K B wi δ b fun ds b1 => ds.length ≤ 100000 ∧ ∃ IV : Nat → List PyData → Nat → Prop, IV 0 [] b1 ∧
      (∀ i d acc b', ds[i]? = some d → acc.length ≤ i → IV i acc b' → MT K B t ((wipeE δ vs).set j (some (.dat d))) b' fun k b2 =>
        (k = true → Me K B te ((wipeE δ vs).set j (some (.dat d))) b2 fun y b3 => ∃ z, y.fz = .dat z ∧ IV (i + 1) (acc ++ [z]) b3) ∧ (k = false → IV (i + 1) acc b2)) ∧
      (∀ acc b', IV ds.length acc b' → R (.own acc) b')) (hj : j ∈ vs := by decide) : Me K B (tLc wi (gName j) t te vs) δ b R :=
  me_lc (fun σ F H s Rr k => h σ F H s Rr fun J ds b' F' H' ⟨hz, IV, h0, hs, he⟩ r' g' w => k J ds b' F' H' ⟨hz, IV, h0, fun i d acc b' hi ha q σ F H sw v hd Q kk =>
    kk _ _ (sw.set j (e := .dat d) hd (fun o => by cases o)) (by rw [wipe_in hj, wipe_idem _ _ _ fun _ h => h]) (hs i d acc b' hi ha q), he⟩ r' g' w)
/-- by the items' values, no test -/
theorem me_map {wi : TI} {vs : List Nat} {j : Nat} (h : Mi K B wi δ b fun ds b1 => ds.length ≤ 100000 ∧ ∃ f : PyData → PyData,
      (∀ d ∈ ds, Me K B te ((wipeE δ vs).set j (some (.dat d))) b1 fun y b3 => y.fz = .dat (f d) ∧ b3 = b1) ∧ R (.own (ds.map f)) b1) (hj : j ∈ vs := by decide) : Me K B (tLc wi (gName j) tYes te vs) δ b R :=
  me_lcN (fun σ F H s Rr k => h σ F H s Rr fun J ds b1 F' H' ⟨hz, f, hf, hr⟩ r' g' w => k J ds b1 F' H' ⟨hz, fun i acc b' => acc = (ds.take i).map f ∧ b' = b1, ⟨by simp, rfl⟩, fun i d acc b' hi ha ⟨q1, q2⟩ => by
    subst q1 q2
    refine mt_yes ⟨fun _ => (hf d (List.mem_of_getElem? hi)).mono fun y b3 ⟨z1, z2⟩ => ⟨f d, z1, ?_, z2⟩, fun z => nomatch z⟩
    rw [List.take_add_one, hi, List.map_append] <;> rfl, fun acc b' ⟨q1, q2⟩ => by
    subst q1 q2
    rw [List.take_length]
    exact hr⟩ r' g' w) hj
/-- with a test -/
theorem me_filter {wi : TI} {vs : List Nat} {j : Nat} (h : Mi K B wi δ b fun ds b1 => ds.length ≤ 100000 ∧ ∃ (p : PyData → Bool) (f : PyData → PyData),
      (∀ d ∈ ds, MT K B t ((wipeE δ vs).set j (some (.dat d))) b1 fun k b2 => k = p d ∧ b2 = b1) ∧
      (∀ d ∈ ds, p d = true → Me K B te ((wipeE δ vs).set j (some (.dat d))) b1 fun y b3 => y.fz = .dat (f d) ∧ b3 = b1) ∧ R (.own ((ds.filter p).map f)) b1) (hj : j ∈ vs := by decide) : Me K B (tLc wi (gName j) t te vs) δ b R :=
  me_lcN (fun σ F H s Rr k => h σ F H s Rr fun J ds b1 F' H' ⟨hz, p, f, hp, hf, hr⟩ r' g' w => k J ds b1 F' H' ⟨hz, fun i acc b' => acc = ((ds.take i).filter p).map f ∧ b' = b1, ⟨by simp, rfl⟩, fun i d acc b' hi ha ⟨q1, q2⟩ => by
    subst q1 q2
    have tk : ds.take (i + 1) = ds.take i ++ [d] := by rw [List.take_add_one, hi] <;> rfl
    refine (hp d (List.mem_of_getElem? hi)).mono fun c b2 ⟨e1, e2⟩ => ?_
    subst e1 e2
    refine ⟨fun c => (hf d (List.mem_of_getElem? hi) c).mono fun y b3 ⟨z1, z2⟩ => ⟨f d, z1, ?_, z2⟩, fun c => ⟨?_, rfl⟩⟩
    · rw [tk, List.filter_append, List.map_append, List.filter_cons, if_pos c] <;> rfl
    · rw [tk, List.filter_append, List.map_append, List.filter_cons, if_neg (by rw [c]; decide)]
      simp, fun acc b' ⟨q1, q2⟩ => by
    subst q1 q2
    rw [List.take_length]
    exact hr⟩ r' g' w) hj
theorem wipe_gnames {vs : List Nat} : ∀ (is : List Nat) {δ : Env} {σ : L2.St} {ws : List V} {ds : List PyData} {Q : L2.St → Hp → Prop}, Sd K B δ b σ F H → DqAll K F ws ds → is.length = ds.length → (∀ i ∈ is, i ∈ vs) →
    (∀ σ', Sd K B (setAll δ is ds) b σ' F H → wipe σ' vs = wipe σ vs → Q σ' H) → gNames is ws σ H Q
  | [], δ, σ, ws, ds, Q, s, hd, hi, hv, k => by
    have e : ds = [] := List.length_eq_zero_iff.mp hi.symm
    subst e
    cases hd
    exact ⟨rfl, k _ s rfl⟩
  | i :: is, δ, σ, ws, ds, Q, s, hd, hi, hv, k => by
    cases ds with
    | nil => cases hi
    | cons d ds =>
      cases hd with
      | cons h1 h2 =>
        refine ⟨_, _, rfl, wipe_gnames is (δ := δ.set i (some (.dat d))) (s.set i (e := .dat d) h1 (fun o => by cases o)) h2 (by simpa using hi) (fun j hj => hv j (List.mem_cons_of_mem _ hj)) fun σ' s' hw => k σ' s' ?_⟩
        rw [hw, wipe_in (hv i List.mem_cons_self)]
/-- [e for x, y in ..]: the items tuples -/
theorem me_lcT {wi : TI} {vs is : List Nat} {n : Nat} (h : Mi K B wi δ b fun ds b1 => ds.length ≤ 100000 ∧ ∃ IV : Nat → List PyData → Nat → Prop, IV 0 [] b1 ∧
      (∀ i d acc b', ds[i]? = some d → acc.length ≤ i → IV i acc b' → ∃ xs, d = .tuple xs ∧ xs.length = n ∧ MT K B t (setAll (wipeE δ vs) is xs) b' fun k b2 =>
        (k = true → Me K B te (setAll (wipeE δ vs) is xs) b2 fun y b3 => ∃ z, y.fz = .dat z ∧ IV (i + 1) (acc ++ [z]) b3) ∧ (k = false → IV (i + 1) acc b2)) ∧
      (∀ acc b', IV ds.length acc b' → R (.own acc) b')) (hj : ∀ i ∈ is, i ∈ vs := by decide) (hn : is.length = n := by rfl) : Me K B (tLc wi (gTup K n (gNames is)) t te vs) δ b R :=
  me_lc (fun σ F H s Rr k => h σ F H s Rr fun J ds b' F' H' ⟨hz, IV, h0, hs, he⟩ r' g' w => k J ds b' F' H' ⟨hz, IV, h0, fun i d acc b' hi ha q σ F H sw v hd Q kk => by
    obtain ⟨xs, e1, e2, m⟩ := hs i d acc b' hi ha q
    subst e1
    cases hd with
    | @tup a ws _ hx hr =>
      refine ⟨a, ws, rfl, lk_t sw.lk (.inl hx), by rw [hr.len, e2], wipe_gnames is sw hr (by rw [hn, e2]) hj fun σ' s' hw => kk _ _ s' ?_ m⟩
      rw [hw, wipe_idem _ _ _ fun _ h => h], he⟩ r' g' w)
theorem me_mapT {wi : TI} {vs is : List Nat} {n : Nat} (h : Mi K B wi δ b fun ds b1 => ds.length ≤ 100000 ∧ ∃ f : List PyData → PyData,
      (∀ d ∈ ds, ∃ xs, d = .tuple xs ∧ xs.length = n ∧ Me K B te (setAll (wipeE δ vs) is xs) b1 fun y b3 => y.fz = .dat (f xs) ∧ b3 = b1) ∧ R (.own (ds.map fun d => match d with | .tuple xs => f xs | _ => d)) b1)
    (hj : ∀ i ∈ is, i ∈ vs := by decide) (hn : is.length = n := by rfl) : Me K B (tLc wi (gTup K n (gNames is)) tYes te vs) δ b R :=
  me_lcT (fun σ F H s Rr k => h σ F H s Rr fun J ds b1 F' H' ⟨hz, f, hf, hr⟩ r' g' w => k J ds b1 F' H' ⟨hz, fun i acc b' => acc = (ds.take i).map (fun d => match d with | .tuple xs => f xs | _ => d) ∧ b' = b1, ⟨by simp, rfl⟩, fun i d acc b' hi ha ⟨q1, q2⟩ => by
    subst q1 q2
    obtain ⟨xs, e1, e2, m⟩ := hf d (List.mem_of_getElem? hi)
    refine ⟨xs, e1, e2, mt_yes ⟨fun _ => m.mono fun y b3 ⟨z1, z2⟩ => ⟨f xs, z1, ?_, z2⟩, fun z => nomatch z⟩⟩
    rw [List.take_add_one, hi, List.map_append, e1] <;> rfl, fun acc b' ⟨q1, q2⟩ => by
    subst q1 q2
    rw [List.take_length]
    exact hr⟩ r' g' w) hj hn
end
/-! ### defs -/
abbrev DSpec := List Dv → Nat → (Dv → Nat → Prop) → (Addr → Nat → Prop) → Prop
/-- called with n things, told of data; ul: no dict may be locked; T: the tables that it uses -/
def spD (K : PySem.W.Frag) (n : Nat) (ul : Bool) (T : List (Addr × Str)) (S : DSpec) : Sp := fun vs H Q E => ∃ (B : Base) (b : Nat) (F : Hp) (es : List Dv) (R : Dv → Nat → Prop), vs.length = n ∧ Sr K B b F H ∧ B.F0 = F ∧ B.H0 = H ∧ B.T = T ∧ (ul = true → B.free = true ∧ B.lk = []) ∧
  DfAll K B F vs es ∧ S es b R B.RX ∧ B.XE = E ∧ (∀ v e b' F' H', R e b' → Sr K B b' F' H' → Dr K B F' H' v e → Q v H') ∧ (∀ C b' F' H', B.RX C b' → Sr K B b' F' H' → E (.ref C) none H')
theorem spD_len {K : PySem.W.Frag} {n : Nat} {ul : Bool} {T : List (Addr × Str)} {S : DSpec} {vs : List V} {H : Hp} {Q : VK} {E : XK} (h : spD K n ul T S vs H Q E) : vs.length = n := by
  obtain ⟨B, b, F, es, R, h1, _⟩ := h
  exact h1
/-- what is wished of raised ones -/
def BX (K : PySem.W.Frag) (B : Base) : Prop := ∀ C b' F' H', B.RX C b' → Sr K B b' F' H' → B.XE (.ref C) none H'
section
variable {K : PySem.W.Frag} {B : Base} {F F' H H' : Hp} {v : V} {e : Dv} {δ : Env} {b : Nat} {σ : L2.St} {d : PyData} {ds : List PyData} {ta tb te : TE} {t u : TT} {R : Dv → Nat → Prop} {S : Bool → Nat → Prop} {E : Ed} {D : Ends} {s1 s2 : TS} {g : TG}
/-- a body -/
theorem spD_enter {n : Nat} {ul : Bool} {T : List (Addr × Str)} {S : DSpec} {N : List Str} {vs : List V} {H : Hp} {Q : VK} {X : XK} {ts : TS} (h : spD K n ul T S vs H Q X) (hn : n ≤ N.length)
    (hb : ∀ (B : Base) (b : Nat) (es : List Dv) (R : Dv → Nat → Prop), es.length = n → B.T = T → (ul = true → B.free = true ∧ B.lk = []) → B.XE = X → BX K B → S es b R B.RX →
      Mz K B ts (es.map some ++ List.replicate (N.length - es.length) none) b { nx := fun _ b' => R (.dat .none) b', rt := R }) : ts { nx := fun _ H' => Q .non H', rt := Q } (L2.start N vs) H := by
  obtain ⟨B, b, F, es, R, h1, h2, h3, h4, h6, h7, h8, h9, h10, h11, h12⟩ := h
  have hl := h8.1
  have hle : es.length = n := by rw [← hl, h1]
  have m := hb B b es R hle h6 h7 h10 (fun C b' F' H' r s => h10 ▸ h12 C b' F' H' r s) h9
  have own : ∀ (i : Nat) (e : Dv), (es.map some ++ List.replicate (N.length - es.length) none)[i]? = some (some e) → es[i]? = some e := fun i e q => by
    by_cases hi : i < (es.map some).length
    · rw [List.getElem?_append_left hi, List.getElem?_map] at q
      cases z : es[i]? with
      | none =>
        rw [z] at q
        cases q
      | some e' =>
        rw [z] at q
        cases q
        rfl
    · rw [List.getElem?_append_right (by omega)] at q
      rw [List.getElem?_replicate] at q
      split at q <;> cases q
  have st : Sd K B (es.map some ++ List.replicate (N.length - es.length) none) b (L2.start N vs) F H := by
    refine ⟨h2, ?_, fun i e q => ?_, fun i j ei ej v ne q1 q2 o1 o2 => ?_⟩
    · unfold L2.start
      rw [List.length_append, List.length_append, List.length_map, List.length_map, List.length_replicate, List.length_replicate]
      omega
    · have q' := own i e q
      have hi : i < vs.length := by
        have := (List.getElem?_eq_some_iff.mp q').1
        omega
      refine ⟨vs[i], ?_, Dr.of (h8.2 i vs[i] e (List.getElem?_eq_getElem hi) q')⟩
      unfold L2.start
      rw [List.getElem?_append_left (by rw [List.length_map]; exact hi), List.getElem?_map, List.getElem?_eq_getElem hi] <;> rfl
    · have q' := own i ei q1
      have hi : i < vs.length := by
        have := (List.getElem?_eq_some_iff.mp q').1
        omega
      have := (h8.2 i vs[i] ei (List.getElem?_eq_getElem hi) q').notOwn
      rw [this] at o1
      cases o1
  exact m _ F H st _ ⟨fun δ b' σ F' H' r s' _ => h11 .non (.dat .none) b' F' H' r s'.toSr .non, fun v e b' F' H' r s' _ dr => h11 v e b' F' H' r s' dr, fun _ _ _ _ _ z => z.elim, fun _ _ _ _ _ z => z.elim⟩
/-- the callee's base -/
def Base.sub (B : Base) (F H : Hp) (T : List (Addr × Str)) (RX : Addr → Nat → Prop) (XE : XK) : Base := ⟨F, H, B.pn, B.lk, T, B.free, RX, XE⟩
theorem sub_hot {T : List (Addr × Str)} {RX : Addr → Nat → Prop} {XE : XK} (hT : T = [] ∨ T = B.T) {a : Addr} (h : ¬ B.hot a) : ¬ (B.sub F H T RX XE).hot a := fun z => by
  rcases z with z | z
  · exact h (.inl z)
  · rcases hT with rfl | rfl
    · cases z
    · exact h (.inr z)
theorem Sr.sub {T : List (Addr × Str)} {RX : Addr → Nat → Prop} {XE : XK} (s : Sr K B b F H) (hT : T = [] ∨ T = B.T) : Sr K (B.sub F H T RX XE) b F H where
  le := s.le
  nfz := s.nfz
  ntb := s.ntb
  ex0 := Ex.refl F
  fr := fun a o h _ _ => h
  dom := fun a h => h
  frN := fun a _ h => .of h
  free := s.free
  lkd := s.lkd
  tabs := by
    rcases hT with rfl | rfl
    · exact fun p hp => absurd (show p ∈ ([] : List (Addr × Str)) from hp) (by simp)
    · exact s.tabs
  tb0 := fun p hp => by
    rcases hT with rfl | rfl
    · exact absurd (show p ∈ ([] : List (Addr × Str)) from hp) (by simp)
    · exact ⟨s.dom _ (s.tb0 p hp).1, (s.tb0 p hp).2⟩
  pen := fun p a ns h => by
    obtain ⟨h1, h2, h3⟩ := s.pen p a ns h
    exact ⟨s.dom _ h1, h2, h3⟩
theorem Sr.after {T : List (Addr × Str)} {RX : Addr → Nat → Prop} {XE : XK} {b' : Nat} (s : Sr K B b F H) (hT : T = [] ∨ T = B.T) (s' : Sr K (B.sub F H T RX XE) b' F' H') : Sr K B b' F' H' ∧ Go B F H F' H' := by
  have hot := fun {a : Addr} => sub_hot (B := B) (F := F) (H := H) (RX := RX) (XE := XE) hT (a := a)
  have kq : ∀ a o, H a = some o → ¬ (B.sub F H T RX XE).hot a → H' a = some o := fun a o h n => by
    by_cases l : a ∈ B.lk.map (·.1)
    · obtain ⟨p, hp, rfl⟩ := List.mem_map.mp l
      obtain ⟨u, h2, h3, h4⟩ := s.lkd p hp
      obtain ⟨u', k2, k3, k4⟩ := s'.lkd p hp
      rw [s'.ex0 _ _ h4] at k4
      cases k4
      rw [h3] at h
      cases h
      exact k3
    · exact s'.fr a o h n l
  have kp : ∀ a o, H a = some o → ¬ B.hot a → H' a = some o := fun a o h n => kq a o h (hot n)
  refine ⟨{ le := s'.le, nfz := s'.nfz, ntb := s'.ntb, ex0 := s.ex0.trans s'.ex0, fr := fun a o h1 h2 h3 => kp a o (s.fr a o h1 h2 h3) h2, dom := fun a h => s'.dom a (s.dom a h), frN := fun a h1 h2 => ?_, free := s'.free, lkd := s'.lkd, tabs := ?_, tb0 := fun p hp => ?_, pen := fun p a ns h => ?_ }, s'.ex0, kp, fun a h1 h2 _ => s'.frN a h1 h2⟩
  · cases q : F a with
    | none => exact s'.frN a (s.dom a h1) q
    | some u =>
      obtain ⟨xs, rfl⟩ := s.frN a h1 h2 u q
      rw [s'.ex0 a _ q]
      exact fun w hw => ⟨xs, (Option.some.inj hw).symm⟩
  · rcases hT with rfl | rfl
    · intro p hp
      have npen : ∀ a o, H a = some o → (∀ xs, o ≠ .lst xs) → H' a = some o := fun a o h n => kq a o h (fun z => by
        rcases z with ⟨x, ns, z⟩ | z
        · obtain ⟨_, _, _, _, i, d, k, _⟩ := s.pen a x ns z
          rw [h] at k
          exact n _ (Option.some.inj k)
        · cases z)
      obtain ⟨ps, t1, t2, t3⟩ := s.tabs p hp
      refine ⟨ps, npen _ _ t1 (fun _ z => nomatch z), t2, fun pos cv hc => ?_⟩
      obtain ⟨c, c1, c2⟩ := t3 pos cv hc
      exact ⟨c, c1, npen _ _ c2 fun xs z => by
        unfold CodeO at z
        cases z⟩
    · exact s'.tabs
  · refine ⟨(s.tb0 p hp).1, ?_⟩
    rcases hT with rfl | rfl
    · obtain ⟨ps, t1, _⟩ := s.tabs p hp
      have t2 : H' p.1 = some (.tbl ps) := kq _ _ t1 (fun z => by
        rcases z with ⟨x, ns, z⟩ | z
        · obtain ⟨_, _, _, _, i, d, k, _⟩ := s.pen p.1 x ns z
          rw [t1] at k
          cases k
        · cases z)
      exact s'.noT (s'.frN _ (s.dom _ (s.tb0 p hp).1) (s.tb0 p hp).2) t2 (fun _ z => nomatch z)
    · exact (s'.tb0 p hp).2
  · obtain ⟨h1, _⟩ := s.pen p a ns h
    obtain ⟨_, k⟩ := s'.pen p a ns h
    exact ⟨h1, k⟩
theorem Dr.sub {T : List (Addr × Str)} {RX : Addr → Nat → Prop} {XE : XK} {F0 H0 : Hp} (s : Sr K B b F0 H0) (h : Dr K (B.sub F0 H0 T RX XE) F H v e) : Dr K B F H v e ∧ Nw H0 v e := by
  cases e with
  | own ds =>
    obtain ⟨p, vs, e1, e2, r⟩ := h
    exact ⟨⟨p, vs, e1, s.h0 e2, r⟩, fun _ => ⟨p, e1, e2⟩⟩
  | ownK ps =>
    obtain ⟨p, vs, e1, e2, r⟩ := h
    exact ⟨⟨p, vs, e1, s.h0 e2, r⟩, fun _ => ⟨p, e1, e2⟩⟩
  | ownX K' P ps =>
    obtain ⟨p, vs, e1, e2, r⟩ := h
    exact ⟨⟨p, vs, e1, s.h0 e2, r⟩, fun _ => ⟨p, e1, e2⟩⟩
  | dat d => exact ⟨h, Nw.no rfl⟩
  | mp P => exact ⟨h, Nw.no rfl⟩
  | pen => exact ⟨h, Nw.no rfl⟩
theorem DfAll.sub {T : List (Addr × Str)} {RX : Addr → Nat → Prop} {XE : XK} {F0 H0 : Hp} {vs : List V} {es : List Dv} (h : DfAll K B F vs es) : DfAll K (B.sub F0 H0 T RX XE) F vs es := ⟨h.1, fun i v e h1 h2 => by
  have := h.2 i v e h1 h2
  cases e with
  | own _ => exact this.elim
  | ownK _ => exact this.elim
  | ownX _ _ _ => exact this.elim
  | dat _ => exact this
  | mp _ => exact this
  | pen => exact this⟩
/-- a call, of values -/
theorem callD {n : Nat} {ul : Bool} {T : List (Addr × Str)} {S : DSpec} {XE : XK} {RX : Addr → Nat → Prop} (hT : T = [] ∨ T = B.T) (hx : ∀ C b' F' H', RX C b' → Sr K B b' F' H' → XE (.ref C) none H') {es : List Dv}
    (hn : es.length = n) (hu : ul = true → B.free = true ∧ B.lk = []) (h : S es b R RX) : CallD K B (fun vs H Q => spD K n ul T S vs H Q XE) es b R := fun F H s vs hd Q k => by
  refine ⟨B.sub F H T RX XE, b, F, es, R, by rw [hd.1, hn], s.sub hT, rfl, rfl, rfl, hu, hd.sub, h, rfl, fun v e b' F' H' r s' dr => ?_, fun C b' F' H' r s' => hx C b' F' H' r (s.after hT s').1⟩
  · obtain ⟨s2, g2⟩ := s.after hT s'
    obtain ⟨d2, n2⟩ := Dr.sub s dr
    exact k v e b' F' H' r s2 g2 d2 n2
theorem me_callV {sp : Sp} {XE : XK} {tr : TA} (h : MA K B tr δ b fun es b1 => CallD K B (fun vs H Q => sp vs H Q XE) es b1 R) : Me K B (tCall sp [] XE tr) δ b R := fun σ F H s Q k =>
  h σ F H s _ fun vs es b1 F1 H1 h1 s1 g1 d1 => by
    rw [List.append_nil]
    exact h1 F1 H1 s1 vs d1 Q fun v e b2 F2 H2 r2 s2 g2 d2 a2 => k v e b2 F2 H2 r2 s2 (g1.trans g2) d2 (a2.back g1 s1)
/-- f(..), nothing raised -/
theorem me_call {n : Nat} {ul : Bool} {T : List (Addr × Str)} {S : DSpec} {XE : XK} {tr : TA} (hT : T = [] ∨ T = B.T) (hu : ul = true → B.free = true ∧ B.lk = [])
    (h : MA K B tr δ b fun es b1 => es.length = n ∧ S es b1 R fun _ _ => False) : Me K B (tCall (spD K n ul T S) [] XE tr) δ b R :=
  me_callV fun σ F H s Q k => h σ F H s Q fun vs es b1 F1 H1 ⟨h1, h2⟩ => k vs es b1 F1 H1 (callD hT (fun _ _ _ _ z => z.elim) h1 hu h2)
/-- f(..), which may raise what this def may -/
theorem me_callX {n : Nat} {ul : Bool} {T : List (Addr × Str)} {S : DSpec} {tr : TA} (hx : BX K B) (hT : T = [] ∨ T = B.T) (hu : ul = true → B.free = true ∧ B.lk = [])
    (h : MA K B tr δ b fun es b1 => es.length = n ∧ S es b1 R B.RX) : Me K B (tCall (spD K n ul T S) [] B.XE tr) δ b R :=
  me_callV fun σ F H s Q k => h σ F H s Q fun vs es b1 F1 H1 ⟨h1, h2⟩ => k vs es b1 F1 H1 (callD hT hx h1 hu h2)
/-! owned lists -/
theorem Sr.write (s : Sr K B b F H) {p : Addr} {u : HO} (h0 : B.H0 p = none) (hF : F p = none) (hn : ∀ q, H p ≠ some (CodeO p q)) : Sr K B b F (L2.upd H p u) where
  le := fun a w h' => by
    have e : a ≠ p := fun z => by rw [z, hF] at h'; cases h'
    rw [upd_ne e]
    exact s.le a w h'
  nfz := s.nfz
  ntb := s.ntb
  ex0 := s.ex0
  fr := fun a o h1 h2 h3 => by
    have e : a ≠ p := fun z => by rw [z, h0] at h1; cases h1
    rw [upd_ne e]
    exact s.fr a o h1 h2 h3
  dom := fun a h1 => by
    have e : a ≠ p := fun z => h1 (by rw [z, h0])
    rw [upd_ne e]
    exact s.dom a h1
  frN := s.frN
  free := fun f a w h' l => by
    have e : a ≠ p := fun z => by rw [z, hF] at h'; cases h'
    rw [upd_ne e]
    exact s.free f a w h' l
  lkd := fun q hq => by
    obtain ⟨u, k2, k3, k4⟩ := s.lkd q hq
    have e : q.1 ≠ p := fun z => by rw [z, hF] at k4; cases k4
    exact ⟨u, k2, by rw [upd_ne e]; exact k3, k4⟩
  tabs := fun q hq => by
    obtain ⟨ps, t1, t2, t3⟩ := s.tabs q hq
    have e : q.1 ≠ p := fun z => (s.tb0 q hq).1 (by rw [z, h0])
    refine ⟨ps, by rw [upd_ne e]; exact t1, t2, fun pos cv hc => ?_⟩
    obtain ⟨c, c1, c2⟩ := t3 pos cv hc
    have e2 : c ≠ p := fun z => by
      subst z
      exact hn _ c2
    exact ⟨c, c1, by rw [upd_ne e2]; exact c2⟩
  tb0 := s.tb0
  pen := fun q a ns h' => by
    obtain ⟨k1, k2, k3, k4, i', d', k5, k6⟩ := s.pen q a ns h'
    have e : q ≠ p := fun z => k1 (by rw [z, h0])
    exact ⟨k1, k2, k3, k4, i', d', by rw [upd_ne e]; exact k5, k6⟩
/-- the thing that slot i owns is written -/
theorem Sd.write {p : Addr} {u : HO} {i : Nat} {ei e' : Dv} (s : Sd K B δ b σ F H) (hi : δ[i]? = some (some ei)) (oi : ei.isOwn = true) (hv : σ[i]? = some (some (.ref p))) (h0 : B.H0 p = none) (hF : F p = none) (hn : ∀ q, H p ≠ some (CodeO p q))
    (he : Dr K B F (L2.upd H p u) (.ref p) e') : Sd K B (δ.set i (some e')) b σ F (L2.upd H p u) := by
  have hil := (List.getElem?_eq_some_iff.mp hi).1
  refine ⟨s.toSr.write h0 hF hn, by rw [List.length_set, s.len], fun j e q => ?_, fun j k ej ek w ne hj hk oj ok ej' ek' => ?_⟩
  · by_cases z : i = j
    · subst z
      rw [List.getElem?_set_self hil] at q
      cases q
      exact ⟨_, hv, he⟩
    · rw [List.getElem?_set_ne z] at q
      obtain ⟨v, h1, h2⟩ := s.at_ j e q
      refine ⟨v, h1, h2.go (Ex.refl F) fun o q' w e1 e2 f _ => ⟨?_, f⟩⟩
      have : q' ≠ p := fun y => s.apart i j ei e _ z hi q oi o hv (by rw [h1, e1, y])
      rw [upd_ne this]
      exact e2
  · have back : ∀ (m : Nat) (em : Dv), (δ.set i (some e'))[m]? = some (some em) → em.isOwn = true → ∃ em', δ[m]? = some (some em') ∧ em'.isOwn = true := fun m em h o => by
      by_cases z : i = m
      · subst z
        exact ⟨ei, hi, oi⟩
      · rw [List.getElem?_set_ne z] at h
        exact ⟨em, h, o⟩
    obtain ⟨a1, a2, a3⟩ := back j ej hj oj
    obtain ⟨b1, b2, b3⟩ := back k ek hk ok
    exact s.apart j k a1 b1 w ne a2 b2 a3 b3 ej' ek'
theorem lst_code {xs : List V} {c : Addr} (h : H c = some (.lst xs)) (q : Str) : H c ≠ some (CodeO c q) := fun z => by
  rw [h] at z
  unfold CodeO at z
  cases z
theorem dK_code {xs : List (Key × V)} {c : Addr} (h : H c = some (.dK xs)) (q : Str) : H c ≠ some (CodeO c q) := fun z => by
  rw [h] at z
  unfold CodeO at z
  cases z
/-- x.append(e) -/
theorem mz_app {i : Nat} (h : Me K B te δ b fun x b1 => ∃ d, x.fz = .dat d ∧ ds.length < 100000 ∧ E.nx (δ.set i (some (.own (ds ++ [d])))) b1) (hi : δ[i]? = some (some (.own ds)) := by rfl) :
    Mz K B (tDrop (tBM K "list" rAppend (tVar i) (tCons te tNil))) δ b E := fun σ F H s D dd => by
  obtain ⟨v, h1, p, vs, rfl, h0, hF, hH, hd⟩ := s.at_ i _ hi
  refine ⟨.ref p, h1, .inl ⟨rfl, vs, SqL.of hH⟩, ?_⟩
  refine Me.run (Rest := fun x b1 => ∃ d, x = .dat d ∧ ds.length < 100000 ∧ E.nx (δ.set i (some (.own (ds ++ [d])))) b1) h s fun w x b1 F1 H1 ⟨d, e1, hz, r⟩ r1 g1 d1 => ?_
  subst e1
  have s1 := s.back r1 g1
  have cold := own_cold s.toSr h0
  have hH1 := g1.kp p _ hH cold
  have hF1 := r1.noT (g1.nw p (by rw [hH]; exact fun z => nomatch z) hF cold) hH1 (fun _ z => nomatch z)
  refine ⟨p, vs, w, rfl, rfl, hH1, sz_lt (by rw [hd.len]; exact hz), ?_⟩
  exact dd.nx _ b1 σ F1 _ r (s1.write hi rfl h1 h0 hF1 (lst_code hH1) ⟨p, _, rfl, h0, hF1, upd_same, DqAll.snoc (hd.up g1.ex) d1⟩) g1.ex
/-- an owned thing is frozen in its slot -/
theorem Sd.fzSlot {i : Nat} (s : Sd K B δ b σ F H) (hi : δ[i]? = some (some e)) : ∃ F', Ex F F' ∧ Sd K B (δ.set i (some e.fz)) b σ F' H := by
  obtain ⟨v, h1, h2⟩ := s.at_ i e hi
  by_cases o : e.isOwn = true
  · have hil := (List.getElem?_eq_some_iff.mp hi).1
    obtain ⟨p, u, rfl, hH, hF, h0⟩ := h2.ref o
    have n1 : ∀ w x, u = .frz w x → XT w x := by
      cases e with
      | own ds =>
        obtain ⟨p', vs, e1, _, _, e2, _⟩ := h2
        cases e1
        rw [hH] at e2
        cases e2
        exact fun _ _ z => nomatch z
      | ownK ps =>
        obtain ⟨p', vs, e1, _, _, e2, _⟩ := h2
        cases e1
        rw [hH] at e2
        cases e2
        exact fun _ _ z => nomatch z
      | ownX K' P ps =>
        obtain ⟨p', vs, e1, _, _, e2, _⟩ := h2
        cases e1
        rw [hH] at e2
        cases e2
        exact fun _ _ z => nomatch z
      | _ => cases o
    have n2 : ∀ w, u ≠ .tbl w := by
      cases e with
      | own ds =>
        obtain ⟨p', vs, e1, _, _, e2, _⟩ := h2
        cases e1
        rw [hH] at e2
        cases e2
        exact fun _ z => nomatch z
      | ownK ps =>
        obtain ⟨p', vs, e1, _, _, e2, _⟩ := h2
        cases e1
        rw [hH] at e2
        cases e2
        exact fun _ z => nomatch z
      | ownX K' P ps =>
        obtain ⟨p', vs, e1, _, _, e2, _⟩ := h2
        cases e1
        rw [hH] at e2
        cases e2
        exact fun _ z => nomatch z
      | _ => cases o
    have hd : Df K B (L2.upd F p u) (.ref p) e.fz := by
      cases e with
      | own ds =>
        obtain ⟨p', vs, e1, _, _, e2, e3⟩ := h2
        cases e1
        rw [hH] at e2
        cases e2
        exact Dq.lst (.inl upd_same) (e3.up (Ex.new hF))
      | ownK ps =>
        obtain ⟨p', vs, e1, _, _, e2, e3, e4, _⟩ := h2
        cases e1
        rw [hH] at e2
        cases e2
        exact Dq.dct (.inl upd_same) e3 (e4.up (Ex.new hF))
      | ownX K' P ps =>
        obtain ⟨p', vs, e1, _, _, e2, e3, e4, e5, e6⟩ := h2
        cases e1
        rw [hH] at e2
        cases e2
        exact fun F2 x2 => ⟨p, vs, rfl, x2 _ _ upd_same, e3, (e4.up (Ex.new hF)).up x2, fun w hw F3 x3 => e6 w hw F3 (((Ex.new hF).trans x2).trans x3)⟩
      | _ => cases o
    have x := Ex.new (H := F) (p := p) (o := u) hF
    refine ⟨_, x, s.toSr.freeze hH h0 hF n1 n2, by rw [List.length_set, s.len], fun j ej q => ?_, fun j k ej ek w ne hj hk oj ok => ?_⟩
    · by_cases z : i = j
      · subst z
        rw [List.getElem?_set_self hil] at q
        cases q
        exact ⟨_, h1, Dr.of hd⟩
      · rw [List.getElem?_set_ne z] at q
        obtain ⟨v, k1, k2⟩ := s.at_ j ej q
        refine ⟨v, k1, k2.go x fun oj q' w e1 e2 f _ => ⟨e2, ?_⟩⟩
        have : q' ≠ p := fun y => s.apart i j e ej _ z hi q o oj h1 (by rw [k1, e1, y])
        rw [upd_ne this]
        exact f
    · have no : ∀ (m : Nat) (em : Dv), (δ.set i (some e.fz))[m]? = some (some em) → em.isOwn = true → δ[m]? = some (some em) := fun m em h om => by
        by_cases z : i = m
        · subst z
          rw [List.getElem?_set_self hil] at h
          cases h
          cases e <;> cases om
        · rw [List.getElem?_set_ne z] at h
          exact h
      exact s.apart j k ej ek w ne (no j ej hj oj) (no k ek hk ok) oj ok
  · have : e.fz = e := by cases e <;> first | rfl | exact absurd rfl o
    have e2 : δ.set i (some e) = δ := by
      refine List.ext_getElem? fun j => ?_
      by_cases z : i = j
      · subst z
        rw [List.getElem?_set_self (List.getElem?_eq_some_iff.mp hi).1, hi]
      · rw [List.getElem?_set_ne z]
    rw [this, e2]
    exact ⟨F, Ex.refl F, s⟩
end
end Dl
set_option Elab.async false
set_option linter.all false
set_option maxRecDepth 100000
set_option maxHeartbeats 4000000
/-! == and != of instances with an own ==, of anything on the right -/
namespace Gd
open PySem PySem.Spec PyProof.Rows L2
section
variable {X : Cx} {pins : List (Addr × Obj)} {σ : L2.St} {H : Hp} {s : Shared}
theorem Dq.typeIs (I : Inv X pins σ H s) {d : PyData} {v : V} {u : Value} (h : Dq X.K H v d) (r : RelV v u) : s.TypeIs u (tyD d) := by
  cases h with
  | non => cases r; exact rfl
  | bl b => cases r; exact rfl
  | int i =>
    obtain ⟨t, rfl⟩ := r
    exact typeIs_int s i t
  | str x =>
    obtain ⟨t, rfl⟩ := r
    exact typeIs_str s x t
  | lst hs _ =>
    cases r
    obtain ⟨its, _, p, _⟩ := I.list (.inl hs)
    exact p.isList.typeIs
  | tup hs _ =>
    cases r
    obtain ⟨its, _, p, _⟩ := I.tuple (.inl hs)
    exact IsTup.typeIs p
  | dct hr _ _ =>
    cases r
    obtain ⟨_, _, vs, _, o, es, ep, ho, hx, _⟩ := hr.ok I.hok
    exact ⟨o, ho, hx.1⟩
theorem looks_type {u : Value} {T : String} {h : Heap} {M : Model} (ht : ∀ s : Shared, (∀ b o, h.get? b = some o → s.heap.get? b = some o) → s.TypeIs u T) : PySem.W.Looks M h (typeOf u) (.type T) := fun A Q E t k q => wpAny_typeOf (ht t k) q
theorem TypeIs.keeps {s t : Shared} {u : Value} {T : String} (h : s.TypeIs u T) (k : ∀ b o, s.heap.get? b = some o → t.heap.get? b = some o) : t.TypeIs u T := by
  cases u with
  | ref a =>
    obtain ⟨o, e, c⟩ := (show ∃ o, s.heap.get? a = some o ∧ o.cls = .type T from h)
    exact (show ∃ o, t.heap.get? a = some o ∧ o.cls = .type T from ⟨o, k _ _ e, c⟩)
  | _ => exact h
theorem notFirst_ty {K : PySem.W.Frag} {C : Addr} (d : PyData) : PySem.W.notFirst K C (.type (tyD d)) = true := by
  have e : ∀ T ∈ tysD, (PySem.fastBuiltinMro T).map (fun l => l.contains (Value.ref C)) = some false := by
    intro T hT
    have : ∃ l : List String, PySem.fastBuiltinMro T = some (l.map Value.type) := by
      simp only [tysD, List.mem_cons, List.not_mem_nil, or_false] at hT
      rcases hT with rfl | rfl | rfl | rfl | rfl | rfl | rfl
      · exact ⟨["NoneType", "object"], by decide +kernel⟩
      · exact ⟨["bool", "int", "object"], by decide +kernel⟩
      · exact ⟨["int", "object"], by decide +kernel⟩
      · exact ⟨["str", "object"], by decide +kernel⟩
      · exact ⟨["list", "object"], by decide +kernel⟩
      · exact ⟨["tuple", "object"], by decide +kernel⟩
      · exact ⟨["dict", "object"], by decide +kernel⟩
    obtain ⟨l, hl⟩ := this
    rw [hl]
    show some ((l.map Value.type).contains (Value.ref C)) = some false
    congr 1
    rw [List.contains_eq_any_beq, List.any_map]
    exact List.any_eq_false.mpr fun x _ => by simp
  unfold PySem.W.notFirst
  rw [Bool.or_eq_true]
  refine .inr ?_
  show (PySem.W.subIn K (.type (tyD d)) (.ref C) == some false) = true
  have : PySem.W.subIn K (.type (tyD d)) (.ref C) = some false := e _ (tyD_mem d)
  rw [this] <;> rfl
/-- the right side: an instance of the class, or data -/
def RightO (K : PySem.W.Frag) (C : Addr) (H : Hp) (y : V) : Prop := (∃ b dy gs, y = .ref b ∧ H b = some (.ins C dy gs)) ∨ ∃ d, Dq K H y d
theorem right_looks {C : Addr} {y : V} {u : Value} (I : Inv X pins σ H s) (h : RightO X.K C H y) (r : RelV y u) : ∃ tb, PySem.W.Looks (model X.prog X.w) s.heap (typeOf u) tb ∧ PySem.W.notFirst X.K C tb = true := by
  rcases h with ⟨b, dy, gs, rfl, hb⟩ | ⟨d, hd⟩
  · cases r
    obtain ⟨mB, J', _⟩ := ins_get I.hok hb
    obtain ⟨od', J', _⟩ := J'.look
    exact ⟨.ref C, J'.type, by simp [PySem.W.notFirst]⟩
  · exact ⟨.type (tyD d), looks_type fun t k => TypeIs.keeps (hd.typeIs I r) k, notFirst_ty d⟩
end
section
variable {X : Cx} {C f : Addr} {fd : FuncData} {ps : List Str} {sp : Sp} {n : Nat}
/-- the own == is called -/
theorem run_ownEq (F : FnOk X.prog X.w X.K X.mg X.base CX0 n f fd ps sp) (hb : Binds X.K fd ps []) {pins : List (Addr × Obj)} {σ : L2.St} {H : Hp} {s : Shared} {A : Around} (hr : Room n A) (hA : A.frames = X.A.frames) (I : Inv X pins σ H s) {a : Addr} {y : V} {u : Value} (ry : RelV y u) {Q : VK} {E : XK} {Ev : Value → Shared → Prop}
    (h : sp [.ref a, y] H Q E) : wpAny (model X.prog X.w) A (call (.ref f) [.ref a, u]) (EP X pins σ Q) Ev s := by
  have e0 : Env0 X.prog X.w X.K X.mg X.base A X.stack s H := by
    have e := I.env0
    exact ⟨by rw [hA]; exact e.frames, e.mod, e.bs, e.bsz, e.funs, e.frf, e.hok, e.bare⟩
  have hl := F.len _ _ _ _ h
  have r2 : Vals [V.ref a, y] [Value.ref a, u] := .cons rfl (.cons ry .nil)
  refine wpAny_call (codeAny_mono (F.run A X.stack s H ⟨[.ref a, u], []⟩ [.ref a, u] [.ref a, y] Q E hr e0 (by
    have := hb s [.ref a, u] I.kIn (by simpa using hl)
    simpa using this) r2 h) fun r s' hq => ?_)
  cases r with
  | error e => exact hq.elim
  | ok fl =>
    cases fl with
    | ret w => exact I.after hq
    | next => exact False.elim hq
    | brk => exact False.elim hq
    | cont => exact False.elim hq
def rOwnEq (K : PySem.W.Frag) (C : Addr) (sp : Sp) (E : XK) : R2 := fun x y H Q => ∃ a dx fs, x = .ref a ∧ H a = some (.ins C dx fs) ∧ RightO K C H y ∧ sp [x, y] H (fun v H' => ∃ k, v = .bl k ∧ Q (.bl k) H') E
def rOwnNe (K : PySem.W.Frag) (C : Addr) (sp : Sp) (E : XK) : R2 := fun x y H Q => ∃ a dx fs, x = .ref a ∧ H a = some (.ins C dx fs) ∧ RightO K C H y ∧ sp [x, y] H (fun v H' => ∃ k, v = .bl k ∧ Q (.bl !k) H') E
theorem op_ownEq {E : XK} (F : FnOk X.prog X.w X.K X.mg X.base CX0 n f fd ps sp) (hs : PySem.W.findIn X.K (.ref C) "__eq__" = some (some (.ref f))) (hf : PySem.W.isFn X.K (.ref f) = true) (hb : Binds X.K fd ps []) (hr : Room n X.A) : OpR X (compareOp .Eq) (rOwnEq X.K C sp E) := by
  intro pins s σ H x y u v Q I rx ry h
  obtain ⟨a, dx, fs, rfl, ha, hR, q⟩ := h
  cases rx
  obtain ⟨mA, J, _⟩ := ins_get I.hok ha
  obtain ⟨od, J, _⟩ := J.look
  obtain ⟨m, hF⟩ := I.fr
  obtain ⟨tb, hL, hn⟩ := right_looks I hR ry
  show wpAny (model X.prog X.w) X.A (richCompare .Eq (.ref a) v) _ _ s
  refine PySem.W.cmp_K (op := .Eq) (tb := tb) hr.units0 hF I.ok.mod.kin J hL hn hs hf ?_
  refine wpAny_mono (run_ownEq F hb hr rfl I ry q) (fun r s' ⟨w, H', I', rw', k, ew, q'⟩ => ?_) fun _ _ z => z
  subst ew
  cases rw'
  exact ⟨.bl k, H', I', rfl, q'⟩
theorem op_ownNe {E : XK} (F : FnOk X.prog X.w X.K X.mg X.base CX0 n f fd ps sp) (hs : PySem.W.findIn X.K (.ref C) "__eq__" = some (some (.ref f))) (hf : PySem.W.isFn X.K (.ref f) = true) (hb : Binds X.K fd ps [])
    (hne : PySem.W.findIn X.K (.ref C) "__ne__" = some (some (.builtin "object.__ne__"))) (hm : PySem.W.mroIn X.K C (.type "object") = some true) (hr : Room (n + 1) X.A) : OpR X (compareOp .NotEq) (rOwnNe X.K C sp E) := by
  intro pins s σ H x y u v Q I rx ry h
  obtain ⟨a, dx, fs, rfl, ha, hR, q⟩ := h
  cases rx
  obtain ⟨mA, J, _⟩ := ins_get I.hok ha
  obtain ⟨od, J, _⟩ := J.look
  obtain ⟨tb, hL, hn⟩ := right_looks I hR ry
  have KX : X.K.In s.heap := I.kIn
  have run := run_ownEq (Ev := X.xe) F hb (A := X.A.in1) hr.in1 (by rfl) I ry q
  have entry : wpAny (model X.prog X.w) X.A.in1 (Builtin.«object.__ne__» ⟨[.ref a, v], []⟩) (fun r s' => ∃ k, r = .done (.ret (.bool !k)) ∧ EP X pins σ Q (.bool !k) s') X.xe s := by
    unfold Builtin.«object.__ne__»
    repeat (first
      | with_reducible refine wpAny_cRoomFor hr.in1.units0 ?_
      | (refine wpAny_bind (m := callSpecialIfBound? (.ref a) (Str.ofString "__eq__") [v])
          (PySem.W.ifBound_K KX J hs hf (wpAny_mono run (fun r s' ⟨w, H', I', rw', k, ew, q'⟩ => by
            subst ew
            cases rw'
            repeat (first | exact ⟨k, rfl, .bl (!k), H', I', rfl, q'⟩ | exact wpAny_pure ⟨k, rfl, .bl (!k), H', I', rfl, q'⟩ | (refine wpAny_bind (m := truthy (.bool _)) (wpAny_truthy_bool ?_)) | wp_step)) fun _ _ e => e)))
      | wp_step)
  have call : wpAny (model X.prog X.w) X.A (call (.builtin "object.__ne__") [.ref a, v]) (fun r s' => ∃ k, r = .bool !k ∧ EP X pins σ Q (.bool !k) s') X.xe s :=
    wpAny_call (codeAny_call_builtin PySem.F.cmp_object.ne.plain PySem.F.cmpEntry_ne (PySem.W.check_slot PySem.F.cmpKind_ne PySem.F.cmpSplit_ne (J.type.andThen (PySem.W.looks_mroIn KX hm)) (PySem.F.cmpArgs_ne _ _) (wpAny_mono entry (fun r s' z => by
      obtain ⟨k, e, q⟩ := z
      subst e
      exact ⟨k, rfl, q⟩) fun _ _ e => e)))
  have one : wpAny (model X.prog X.w) X.A (tryCompare (.ref a) "__ne__" v) (fun r s' => ∃ k, r = some (.bool !k) ∧ EP X pins σ Q (.bool !k) s') X.xe s := by
    unfold tryCompare
    refine wpAny_bind ?_
    simp only [callSpecialIfBound?, bindSpecialIfBound?]
    refine wpAny_holding (wpAny_bind (wpAny_bind (wpAny_bind (J.type.here ((PySem.W.looks_findIn KX hne).here ?_)))))
    refine wpAny_bind (wpAny_askSetting (wpAny_ite ?_))
    have fin : wpAny (model X.prog X.w) X.A (PySem.call (.builtin "object.__ne__") ([.ref a] ++ [v]) >>= fun v => pure (some v)) (fun r s' => wpAny (model X.prog X.w) X.A (match r with | some .notImplemented | none => pure none | some v => pure (some v)) (fun r s' => ∃ k, r = some (.bool !k) ∧ EP X pins σ Q (.bool !k) s') X.xe s') X.xe s :=
      wpAny_bind (wpAny_mono call (fun r s' ⟨k, e, q⟩ => by
        subst e
        exact wpAny_pure (wpAny_pure ⟨k, rfl, q⟩)) fun _ _ h' => h')
    split
    · exact wpAny_bind (wpAny_of_eq (PySem.F.cmp_object.ne.bind _) (wpAny_pure (by exact fin)))
    · exact wpAny_tryCatch (wpAny_bind (wpAny_of_eq (PySem.F.cmp_object.ne.bind _) (wpAny_pure (by exact fin))))
  show wpAny (model X.prog X.w) X.A (richCompare .NotEq (.ref a) v) _ _ s
  unfold richCompare
  simp only [oneThing_ref]
  refine wpAny_holding (wpAny_bind (wpAny_cRoomFor hr.units0 ?_))
  rw [cmpInfo_NotEq]
  dsimp only
  refine wpAny_bind (J.type.here (wpAny_bind (hL.here ?_)))
  split
  · rename_i q
    have e : PySem.W.subIn X.K tb (.ref C) = some false := by
      rcases Bool.or_eq_true_iff.mp hn with e | e
      · rw [beq_iff_eq.mp e] at q
        simp at q
      · exact beq_iff_eq.mp e
    refine wpAny_bind ((PySem.W.looks_subIn KX e).here ?_)
    simp only [Bool.false_eq_true, if_false]
    refine wpAny_bind (wpAny_mono one (fun r s' z => ?_) fun _ _ e => e)
    obtain ⟨k, e, q⟩ := z
    subst e
    exact wpAny_pure q
  · refine wpAny_bind (wpAny_pure ?_)
    simp only [Bool.false_eq_true, if_false]
    refine wpAny_bind (wpAny_mono one (fun r s' z => ?_) fun _ _ e => e)
    obtain ⟨k, e, q⟩ := z
    subst e
    exact wpAny_pure q
end
end Gd
set_option Elab.async false
set_option linter.all false
set_option maxRecDepth 100000
set_option maxHeartbeats 4000000
/-! == of dicts, both answers; a dict and a scalar -/
namespace Gd
open PySem PySem.Spec PyProof.Rows L2
def KDs (K : PySem.W.Frag) (H : Hp) (ks : List (Key × V)) (as : List (Key × PyData)) : Prop := ks.map (·.1) = as.map (·.1) ∧ DqAll K H (ks.map (·.2)) (as.map (·.2))
def atK (bs : List (Key × PyData)) (k : Key) : Option PyData := (bs.find? fun q => decide (q.1 = k)).map (·.2)
def eqK (as bs : List (Key × PyData)) : Bool := decide (as.length = bs.length) && as.all fun p => match atK bs p.1 with
  | none => false
  | some e => PyData.eqv p.2 e
section
variable {X : Cx} {pins : List (Addr × Obj)} {σ : L2.St} {H : Hp} {s : Shared}
theorem KDs.at {K : PySem.W.Frag} : ∀ {ls : List (Key × V)} {bs : List (Key × PyData)}, KDs K H ls bs → ∀ (k : Key), (valV ls k = none ∧ atK bs k = none) ∨ ∃ v d, valV ls k = some v ∧ atK bs k = some d ∧ Dq K H v d
  | [], bs, h, k => by
    have : bs = [] := by
      have := congrArg List.length h.1
      simp at this
      exact List.length_eq_zero_iff.mp this.symm
    subst this
    exact .inl ⟨rfl, rfl⟩
  | p :: ls, bs, h, k => by
    obtain ⟨h1, h2⟩ := h
    cases bs with
    | nil => simp at h1
    | cons q bs =>
      simp only [List.map_cons, List.cons.injEq] at h1 h2
      obtain ⟨e1, e2⟩ := h1
      cases h2 with
      | cons d1 d2 =>
        by_cases e : p.1 = k
        · refine .inr ⟨p.2, q.2, ?_, ?_, d1⟩
          · unfold valV
            rw [List.find?_cons_of_pos (by simpa using e)] <;> rfl
          · unfold atK
            rw [List.find?_cons_of_pos (by simpa [← e1] using e)] <;> rfl
        · rcases KDs.at (K := K) (ls := ls) (bs := bs) ⟨e2, d2⟩ k with ⟨a1, a2⟩ | ⟨v, d, a1, a2, a3⟩
          · refine .inl ⟨?_, ?_⟩
            · unfold valV at a1 ⊢
              rw [List.find?_cons_of_neg (by simpa using e)]
              exact a1
            · unfold atK at a2 ⊢
              rw [List.find?_cons_of_neg (by simpa [← e1] using e)]
              exact a2
          · refine .inr ⟨v, d, ?_, ?_, a3⟩
            · unfold valV at a1 ⊢
              rw [List.find?_cons_of_neg (by simpa using e)]
              exact a1
            · unfold atK at a2 ⊢
              rw [List.find?_cons_of_neg (by simpa [← e1] using e)]
              exact a2
theorem keq_hits (I : Inv X pins σ H s) (hS : SysD X.K) {A : Around} (hu : A.in1.units + 64 < cLine) {ls : List (Key × V)} {vb : List (Key × Value)} {bs : List (Key × PyData)} (rb : KV ls vb) (kb : KDs X.K H ls bs) (sb : ∀ p ∈ bs, SeqAt.shaped p.2 = true) :
    ∀ {ks : List (Key × V)} {va : List (Key × Value)} {as : List (Key × PyData)}, KV ks va → KDs X.K H ks as → (∀ p ∈ as, SeqAt.shaped p.2 = true) → PySem.W.KeqHits A.in1 s vb va (as.all fun p => match atK bs p.1 with
      | none => false
      | some e => PyData.eqv p.2 e)
  | [], va, as, ra, ka, sa => by
    cases ra
    have : as = [] := by
      have := congrArg List.length ka.1
      simp at this
      exact List.length_eq_zero_iff.mp this.symm
    subst this
    exact .nil
  | p :: ks, va, as, ra, ka, sa => by
    cases ra with
    | @cons _ q _ va h t =>
      obtain ⟨h1, h2⟩ := h
      cases as with
      | nil =>
        have := ka.1
        simp at this
      | cons a as =>
        obtain ⟨k1, k2⟩ := ka
        simp only [List.map_cons, List.cons.injEq] at k1 k2
        obtain ⟨e1, e2⟩ := k1
        cases k2 with
        | cons d1 d2 =>
          obtain ⟨key, v⟩ := q
          have h1' : p.1 = key := h1
          have ek : a.1 = key := e1.symm.trans h1'
          have rr := rb.val key
          have ih := keq_hits I hS hu rb kb sb (ks := ks) (va := va) (as := as) t ⟨e2, d2⟩ fun z hz => sa z (List.mem_cons_of_mem _ hz)
          rw [List.all_cons, ek]
          rcases kb.at key with ⟨a1, a2⟩ | ⟨w, d, a1, a2, a3⟩
          · rw [a2]
            rw [a1] at rr
            have : valueAt vb key = none := by
              cases z : valueAt vb key with
              | none => rfl
              | some y =>
                rw [z] at rr
                exact rr.elim
            rw [show (false && as.all fun p => match atK bs p.1 with | none => false | some e => PyData.eqv p.2 e) = false from rfl]
            exact .miss this
          · rw [a2]
            rw [a1] at rr
            obtain ⟨y, hy, ry⟩ := rr.some_of
            obtain ⟨xs, rx, _⟩ := Dq.reads I hS _ _ _ d1 h2
            obtain ⟨ys, r2, _⟩ := Dq.reads I hS _ _ _ a3 ry
            have sd : SeqAt.shaped d = true := by
              unfold atK at a2
              cases z : bs.find? (fun q => decide (q.1 = key)) with
              | none =>
                rw [z] at a2
                cases a2
              | some q =>
                rw [z] at a2
                cases a2
                exact sb q (List.mem_of_find?_eq_some z)
            exact .hit hy (PySem.W.keq_at rx r2 (sa a List.mem_cons_self) sd hu) ih
end
def rEqKD (K : PySem.W.Frag) : R2 := fun x y H Q => ∃ (a b : Addr) (ks ls : List (Key × V)) (as bs : List (Key × PyData)), x = .ref a ∧ y = .ref b ∧ Rd H a (.dK ks) ∧ Rd H b (.dK ls) ∧ KDs K H ks as ∧ KDs K H ls bs ∧ (∀ p ∈ as, SeqAt.shaped p.2 = true) ∧ (∀ p ∈ bs, SeqAt.shaped p.2 = true) ∧ Q (.bl (eqK as bs)) H
section
variable {X : Cx}
theorem op_eqKD (hu : X.A.units + 70 < cLine) (hS : SysD X.K) : OpR X (compareOp .Eq) (rEqKD X.K) := by
  intro pins s σ H x y v u Q I rx ry h
  obtain ⟨a, b, ks, ls, as, bs, rfl, rfl, ha, hb, ka, kb, sa, sb, q⟩ := h
  cases rx
  cases ry
  obtain ⟨_, ya, va, ra, da⟩ := ha.ok I.hok
  obtain ⟨_, yb, vb, rb, db⟩ := hb.ok I.hok
  refine PySem.W.keq_eq (knd := mixKind X.prog X.w) ya yb da db (by omega) (fun _ => keq_hits I hS (A := X.A) (by show X.A.units + 1 + 64 < cLine; omega) rb kb sb ra ka sa) ?_
  refine ⟨.bl (eqK as bs), H, I, ?_, q⟩
  show Value.bool _ = Value.bool _
  have l1 : va.length = as.length := by rw [← ra.length, ← List.length_map (f := (·.1)) (as := as), ← ka.1, List.length_map]
  have l2 : vb.length = bs.length := by rw [← rb.length, ← List.length_map (f := (·.1)) (as := bs), ← kb.1, List.length_map]
  unfold eqK
  rw [l1, l2]
  by_cases e : as.length = bs.length
  · rw [decide_eq_true e, e]
    simp
  · rw [decide_eq_false e]
    simp [e]
end
/-! a dict and a scalar -/
theorem dict_eq_declines {a : Addr} {o : Obj} {T : String} {x : Value} {prog : Program} {w : World} {A : Around} {E : Value → Shared → Prop} {s : Shared} {Q : Value → Shared → Prop} (ho : s.heap.get? a = some o) (hx : o.ExactDict) (ht : s.TypeIs x T) (hsub : isSubtype (.type T) (.type "dict") = pure false) (h : Q .notImplemented s) :
    wpAny (model prog w) A (call (.builtin "dict.__eq__") [.ref a, x]) Q E s := by
  have da : s.TypeIs (.ref a) "dict" := ⟨o, ho, hx.1⟩
  refine wpAny_call_entry PySem.F.slot_dict_eq da PySem.F.entry_dict_eq ?_ (PySem.F.args_dict_eq_2 _ _)
  show wpAny _ _ (Builtin.Dict.dictSlotArgs "__eq__" ⟨[.ref a, x], []⟩ >>= _) _ _ s
  refine wpAny_bind ?_
  unfold Builtin.Dict.dictSlotArgs
  refine wpAny_bind (wpAny_notOrdered_dict da ?_)
  show wpAny _ _ (pure (Value.ref a, x)) _ _ s
  refine wpAny_pure ?_
  refine wpAny_bind (wpAny_isInstance (T := T) ht hsub ?_)
  simp only [Bool.not_false, if_true]
  first
    | exact wpAny_bind (wpAny_rule (wpAny_pure ⟨_, rfl, h⟩))
    | exact wpAny_bind (wpAny_pure (wpAny_pure ⟨_, rfl, h⟩))
    | (wp_step; wp_step; exact ⟨_, rfl, h⟩)
    | trace_state
section
open AutoSeq1 (wpAny_loadPart')
theorem str_eq_declines_dict (b : Str) (u : Tok) (l : Addr) (c : Value) (es : Array DictEntry) (n : Nat) (dd : Option Addr) (sl : Array (Option Value)) :
    Meets (Builtin.«str.__eq__» ⟨[.str b u, .ref l], []⟩) (fun _ R s => s.heap.get? l = some { cls := c, dict := dd, data := .dict es n, slots := sl } ∧ R (.ok (.ret .notImplemented)) s) :=
  .of_wp fun prog w A R s h => by obtain ⟨hp, g, d, tk, os⟩ := s; obtain ⟨hl, h⟩ := h; wp_walk using wpAny_loadPart' hl, wpAny_load hl; exact ⟨_, rfl, h⟩
theorem int_eq_declines_dict (b : Int) (u : Tok) (l : Addr) (c : Value) (es : Array DictEntry) (n : Nat) (dd : Option Addr) (sl : Array (Option Value)) :
    Meets (Builtin.«int.__eq__» ⟨[.int b u, .ref l], []⟩) (fun _ R s => s.heap.get? l = some { cls := c, dict := dd, data := .dict es n, slots := sl } ∧ R (.ok (.ret .notImplemented)) s) :=
  .of_wp fun prog w A R s h => by obtain ⟨hp, g, d, tk, os⟩ := s; obtain ⟨hl, h⟩ := h; wp_walk using wpAny_loadPart' hl, wpAny_load hl; exact ⟨_, rfl, h⟩
end
section
variable {A : Around} {s : Shared} {a : Addr} {o : Obj}
theorem rc_str_dict (x : Str) (t : Tok) (ho : s.heap.get? a = some o) (hx : o.ExactDict) {es : Array DictEntry} {ep : Nat} (hd : o.data = .dict es ep) (hu : A.units < cLine) : SeqAt.RcAt A s (.str x t) (.ref a) false := fun prog w E Q h => by
  refine SeqAt.rc_eq_decline_or (k := false) (typeIs_str s x t) ⟨o, ho, hx.1⟩ (by decide) PySem.F.sub_dict_str PySem.F.slot_str_eq PySem.F.slot_dict_eq_refl
    (fun Q' hq => ?_) (fun _ hq => dict_eq_declines ho hx (typeIs_str s x t) PySem.F.sub_str_dict hq)
    (fun _ hq => wpAny_of_eq (rfl : isSame (.str x t) (.ref a) = pure false) hq) (.inr hu) h
  obtain ⟨c, dd, dt, sl⟩ := o
  cases (show dt = _ from hd)
  exact call_meets PySem.F.slot_str_eq (typeIs_str s x t) PySem.F.entry_str_eq (PySem.F.args_str_eq_2 _ _) (str_eq_declines_dict x t a c es ep dd sl) ⟨ho, hq⟩
theorem rc_dict_int (i : Int) (t : Tok) (ho : s.heap.get? a = some o) (hx : o.ExactDict) {es : Array DictEntry} {ep : Nat} (hd : o.data = .dict es ep) (hu : A.units < cLine) : SeqAt.RcAt A s (.ref a) (.int i t) false := fun prog w E Q h => by
  refine SeqAt.rc_eq_decline_or (k := false) ⟨o, ho, hx.1⟩ (typeIs_int s i t) (by decide) PySem.F.sub_int_dict PySem.F.slot_dict_eq PySem.F.slot_int_eq_refl
    (fun _ hq => dict_eq_declines ho hx (typeIs_int s i t) PySem.F.sub_int_dict hq) (fun Q' hq => ?_)
    (fun _ hq => wpAny_of_eq (rfl : isSame (.ref a) (.int i t) = pure false) hq) (.inr hu) h
  obtain ⟨c, dd, dt, sl⟩ := o
  cases (show dt = _ from hd)
  exact call_meets PySem.F.slot_int_eq_refl (typeIs_int s i t) PySem.F.entry_int_eq (PySem.F.args_int_eq_2 _ _) (int_eq_declines_dict i t a c es ep dd sl) ⟨ho, hq⟩
end
/-- x == y: of data without dicts, or a text with a dict, or a dict with an int -/
def EqOk (d e : PyData) : Bool := (SeqAt.shaped d && SeqAt.shaped e) || (match d, e with
  | .str _, .dict _ => true
  | .dict _, .int _ => true
  | _, _ => false)
def rEqQ (K : PySem.W.Frag) : R2 := fun x y H Q => ∃ d e, Dq K H x d ∧ Dq K H y e ∧ EqOk d e = true ∧ Q (.bl (PyData.eqv d e)) H
section
variable {X : Cx}
theorem op_eqQ (hu : X.A.units + 70 < cLine) (hS : SysD X.K) : OpR X (compareOp .Eq) (rEqQ X.K) := by
  intro pins s σ H x y v u Q I rx ry h
  obtain ⟨d, e, hd, he, ok, q⟩ := h
  rcases Bool.or_eq_true_iff.mp ok with ok | ok
  · rw [Bool.and_eq_true] at ok
    obtain ⟨as, r1, _⟩ := Dq.reads I hS _ _ _ hd rx
    obtain ⟨bs, r2, _⟩ := Dq.reads I hS _ _ _ he ry
    exact SeqAt.compareEq_shaped r1 r2 ok.1 ok.2 (by omega) ⟨.bl _, H, I, rfl, q⟩
  · cases d <;> cases e <;> first | (cases ok; done) | skip
    · cases hd
      cases he with
      | dct hr _ _ =>
        obtain ⟨t, rfl⟩ := rx
        cases ry
        obtain ⟨_, _, vs, _, o, es, ep, ho, hx, hdt, _⟩ := hr.ok I.hok
        show wpAny (model X.prog X.w) X.A (richCompare .Eq _ _) _ _ s
        exact rc_str_dict _ t ho hx hdt (by omega) _ _ _ _ ⟨.bl false, H, I, rfl, q⟩
    · cases he
      cases hd with
      | dct hr _ _ =>
        obtain ⟨t, rfl⟩ := ry
        cases rx
        obtain ⟨_, _, vs, _, o, es, ep, ho, hx, hdt, _⟩ := hr.ok I.hok
        show wpAny (model X.prog X.w) X.A (richCompare .Eq _ _) _ _ s
        exact rc_dict_int _ t ho hx hdt (by omega) _ _ _ _ ⟨.bl false, H, I, rfl, q⟩
end
end Gd
set_option Elab.async false
set_option linter.all false
set_option maxRecDepth 100000
set_option maxHeartbeats 4000000
/-! sorted of data; list, keys and items of dicts with tuple keys; enumerate of a tuple -/
namespace Gd
open PySem PySem.Spec PyProof.Rows L2
section
variable {X : Cx} {pins : List (Addr × Obj)} {σ : L2.St} {H : Hp} {s : Shared}
def sortD (ds : List PyData) : List PyData := ds.mergeSort (PySem.W.dataLe false fun d => d)
def rSortD (K : PySem.W.Frag) : List V → Hp → VK → Prop := fun xs H Q => ∃ a vs ds, xs = [.ref a] ∧ SqL K H a vs ∧ DqAll K H vs ds ∧ PySem.W.AllAlike ds ∧ PySem.W.Sortable ds ∧ (∀ d ∈ ds, d.depth ≤ 20) ∧
  ∀ p ws, H p = none → (∀ F, DqAll K F vs ds → DqAll K F ws (sortD ds)) → Q (.ref p) (upd H p (.lst ws))
theorem eachIs_of (I : Inv X pins σ H s) (hS : SysD X.K) (P : V → PyData → Prop) : ∀ {ds : List PyData} {vs : List V} {us : List Value}, DqAll X.K H vs ds → (∀ (i : Nat) v d, vs[i]? = some v → ds[i]? = some d → P v d) → Vals vs us → PySem.W.EachIs (fun u d => ∃ v, RelV v u ∧ P v d) us ds ∧ PySem.W.EachIs (fun u d => ∃ as, Reads s.heap u d as) us ds
  | [], _, _, h, _, r => by
    cases h
    cases r
    exact ⟨.nil, .nil⟩
  | d :: ds, _, _, h, p, r => by
    cases h with
    | cons h1 h2 =>
      cases r with
      | cons r1 r2 =>
        obtain ⟨a, b⟩ := eachIs_of I hS P h2 (fun i v d e1 e2 => p (i + 1) v d e1 e2) r2
        obtain ⟨as, q, _⟩ := Dq.reads I hS _ _ _ h1 r1
        exact ⟨.cons ⟨_, r1, p 0 _ _ rfl rfl⟩ a, .cons ⟨as, q⟩ b⟩
theorem eachIs_back {P : V → PyData → Prop} : ∀ {us : List Value} {ds : List PyData}, PySem.W.EachIs (fun u d => ∃ v, RelV v u ∧ P v d) us ds → ∃ vs, Vals vs us ∧ vs.length = ds.length ∧ ∀ (i : Nat) v d, vs[i]? = some v → ds[i]? = some d → P v d
  | _, _, .nil => ⟨[], .nil, rfl, fun i v d e => by cases e⟩
  | _, _, .cons ⟨v, r, h⟩ t => by
    obtain ⟨vs, a, b, c⟩ := eachIs_back t
    exact ⟨v :: vs, .cons r a, by rw [List.length_cons, List.length_cons, b], fun i => match i with
      | 0 => fun _ _ e1 e2 => by
        cases e1
        cases e2
        exact h
      | i + 1 => fun _ _ e1 e2 => c i _ _ e1 e2⟩
theorem dqAll_of {K : PySem.W.Frag} {F : Hp} : ∀ {ds : List PyData} {vs : List V}, vs.length = ds.length → (∀ (i : Nat) v d, vs[i]? = some v → ds[i]? = some d → Dq K F v d) → DqAll K F vs ds
  | [], [], _, _ => .nil
  | d :: ds, v :: vs, l, h => .cons (h 0 v d rfl rfl) (dqAll_of (by simpa using l) fun i v d e1 e2 => h (i + 1) v d e1 e2)
  | [], _ :: _, l, _ => by cases l
  | _ :: _, [], l, _ => by cases l
theorem cr_sortedDt (hu : X.A.units + 64 < cLine) (hS : SysD X.K) : CallR X (.builtin "sorted") (rSortD X.K) := by
  intro pins s σ H vs us Q I r h
  obtain ⟨a, xs, ds, rfl, hs, ha, al, so, dp, q⟩ := h
  obtain ⟨u, rfl, rx⟩ := vals1 r
  cases rx
  obtain ⟨its, rv, hl, hz⟩ := I.list hs
  obtain ⟨e1, e2⟩ := eachIs_of I hS (fun v d => ∃ i, xs[i]? = some v ∧ ds[i]? = some d) ha (fun i v d e1 e2 => ⟨i, e1, e2⟩) rv
  have em : ds.map (fun d => d) = ds := List.map_id' ds
  refine PySem.W.sorted_data (enc := fun d => d) (vs := its) (bs := ds) hl.isList e1 e2 (by rw [em]; exact al) (by rw [em]; exact so) (by rw [← ha.len]; exact hz) (fun d hd => by have := dp d hd; omega) fun out ho eo => ?_
  obtain ⟨ws, rw', hwl, hw⟩ := eachIs_back eo
  obtain ⟨ep, he'⟩ := PyProof.Rows.sortedAll_at s.heap its out.toArray
  have hlen : ws.length ≤ sizeLine := by rw [rw'.length, ho, ← ha.len]; exact hz
  exact ⟨.ref _, upd H (s.heap.objs.size + 1) (.lst ws), I.laid (t' := s.toks) (fun _ _ => PyProof.Rows.sortedAll_old) (Nat.le_succ _) ⟨hlen, out, ep, rw', by simpa using he'⟩, rfl, q _ ws (I.hok.fresh (Nat.le_succ _)) fun F hf => dqAll_of hwl fun i v d e1 e2 => by
    obtain ⟨j, e3, e4⟩ := hw i v d e1 e2
    obtain ⟨w, h1, h2⟩ := hf.get j d e4
    rw [e3] at h1
    cases h1
    exact h2⟩
end
/-! ### dicts with tuple keys -/
section
variable {P : Program} {w : World} {K : PySem.W.Frag} {tg : Expr} {d : Addr} {o : Obj} {es : Array DictEntry} {ep : Nat}
/-- keys and values, each entry's pair new -/
def Itit (d : Addr) (o : Obj) (kvs : List (List Key × V)) : It :=
  ⟨fun i H => H d = some (.frz o (.dT kvs)) ∧ i < kvs.length, fun i H x H' => ∃ T q k v, kvs[i]? = some (k, v) ∧ H q = some (.tup (k.map kV)) ∧ x = .ref T ∧ H T = none ∧ H' = upd H T (.tup [.ref q, v]), fun i H => H d = some (.frz o (.dT kvs)) ∧ kvs.length ≤ i⟩
section
variable {X : Cx} {pins : List (Addr × Obj)} {σ : L2.St} {H : Hp} {s : Shared}
theorem frzTv {kvs : List (List Key × V)} (I : Inv X pins σ H s) (h : H d = some (.frz o (.dT kvs))) :
    (d == sysModules) = false ∧ s.heap.get? d = some o ∧ o.ExactDict ∧ ∃ (es : Array DictEntry) (ep : Nat), o.data = .dict es ep ∧ es.size = kvs.length ∧
      ∀ (i : Nat) (k : List Key) (v : V), kvs[i]? = some (k, v) → ∃ (en : DictEntry) (q : Addr), es[i]? = some en ∧ en.key = .ref q ∧ H q = some (.tup (k.map kV)) ∧ RelV v en.val := by
  obtain ⟨hd, z, hs, xs, pr, o', es, ep, ho, hx, hdt, he, _⟩ := I.hok d _ h
  rw [hd] at ho
  cases ho
  refine ⟨hs, hd, hx, es, ep, hdt, ?_, fun i k v e => ?_⟩
  · have l1 : es.size = xs.length := size_of_entries he
    have l2 : kvs.length = xs.length := Paired.length pr
    omega
  · obtain ⟨b, hb, e1, e2, e3⟩ := paired_get pr e
    have q := entry_at he i
    rw [hb] at q
    exact ⟨_, b.2.1, q, rfl, e2, e3⟩
end
theorem turn_itemsT {kvs : List (List Key × V)} {elts : List Expr} {kk : Nat} {tpos : Pos} (it : Addr) (hod : o.data = .dict es ep) :
    Turn P w K (.Tuple elts kk tpos) (Itit d o kvs) [it] it (fun i h => ∃ ok ov, IsItemIter h it d i kvs.length ep ok ov) where
  mem := List.mem_singleton.mpr rfl
  obj := fun i h st b hb => by
    obtain rfl := List.mem_singleton.mp hb
    obtain ⟨ok, ov, e⟩ := st
    exact ⟨_, e, nofun⟩
  keep := fun i h h' st k => let ⟨ok, ov, e⟩ := st; ⟨ok, ov, k it (List.mem_singleton.mpr rfl) _ e⟩
  item := by
    intro X hP hw hK hc i pins s σ H E I hf ⟨ok, ov, he⟩ ⟨hd, hi⟩
    subst hP hw hK
    obtain ⟨hs, hgd, hx, es', ep', hdt, hsz, ent⟩ := frzTv I hd
    obtain ⟨rfl, rfl⟩ := dict_ep hod hdt
    obtain ⟨⟨k, v⟩, hkv⟩ : ∃ p, kvs[i]? = some p := ⟨kvs[i], List.getElem?_eq_getElem hi⟩
    obtain ⟨en, q, hen, hkey, hq, ru⟩ := ent i k v hkv
    have hlt : it < s.heap.objs.size := Heap.lt_size he
    rw [← hsz] at he
    have hie : i < es'.size := by rw [hsz]; exact hi
    have ee : es'[i] = en := by
      rw [Array.getElem?_eq_getElem hie] at hen
      exact Option.some.inj hen
    refine DT.nextI he ⟨o, hgd, hx, hdt⟩ hie fun h1 ho1 hT hz1 hk1 => ?_
    refine ⟨_, rfl, wpAny_letOwnedTupleGo_items (s := { s with heap := h1 }) ho1 fun h2 he2 sb => ?_⟩
    rw [ee, hkey] at hT
    have fresh := I.hok.fresh (Nat.le_refl s.heap.objs.size)
    have hT2 : h2.get? s.heap.objs.size = some { cls := .type "tuple", data := .seq #[.ref q, en.val] } := (sb.2 _ (Nat.ne_of_gt hlt)).trans hT
    have new : ObjOk X.prog X.w (upd H s.heap.objs.size (.tup [.ref q, v])) h2 s.heap.objs.size (.tup [.ref q, v]) :=
      ⟨by show 2 ≤ sizeLine; decide, [.ref q, en.val], .cons rfl (.cons ru .nil), ⟨_, hT2, rfl, _, rfl⟩⟩
    have I1 : Inv X pins σ (upd H s.heap.objs.size (.tup [.ref q, v])) { s with heap := h2 } :=
      I.turnedNew (t' := s.toks) (ch := [it]) (fun b ob hb e => (sb.2 b (fun z => hb (List.mem_singleton.mpr z))).trans (hk1 b ob (fun z => hb (List.mem_singleton.mpr z)) e)) hf (Nat.le_refl _) new
    refine ⟨.ref s.heap.objs.size, _, I1, rfl, ⟨_, q, k, v, hkv, hq, rfl, fresh, rfl⟩, ⟨es'[i].key, es'[i].val, hsz ▸ he2⟩, fun b hb => ?_⟩
    obtain rfl := List.mem_singleton.mp hb
    rw [upd_ne (Nat.ne_of_lt hlt)]
    exact (hf b hb).1
  done := by
    intro X hP hw hK hc i pins s σ H E I hf ⟨ok, ov, he⟩ ⟨hd, hi⟩
    subst hP hw hK
    obtain ⟨f0, f1, f2, f3, f4, f5⟩ := hf it (List.mem_singleton.mpr rfl)
    obtain ⟨hs, hgd, hx, es', ep', hdt, hsz, ent⟩ := frzTv I hd
    obtain ⟨rfl, rfl⟩ := dict_ep hod hdt
    rw [← hsz] at he
    exact DT.endI (I.ok.hd hc) he ⟨o, hgd, hx, hdt⟩ (by omega) fun h1 eb => ⟨rfl, I.turned (t' := s.toks) (fun b ob hb e => eb b ob hb e) f0 f1 f3 f4 f5⟩
  self := fun A i s Q E st h => let ⟨_, _, e⟩ := st; PySem.W.kcp_self e h
/-- d.items() of a dict with tuple keys, locked -/
def iItemsT (td : TE) : TI := fun σ H R => td σ H fun x H1 => ∃ d o kvs, x = .ref d ∧ H1 d = some (.frz o (.dT kvs)) ∧ R (Itit d o kvs) H1
theorem pi_itemsT {X : Cx} {e : Expr} {td : TE} {apos cpos : Pos} {elts : List Expr} {kk : Nat} {tpos : Pos} (he : PE X e td) (hbase : attributeBase e "items" X.env (eval e X.env) = eval e X.env := by rfl) (hline : (apos.endLine == cpos.line) = true := by rfl) :
    PI X (.Tuple elts kk tpos) (.Call (.Attribute e "items" apos) [] [] cpos) (iItemsT td) := ⟨fun pins s σ H R I h => by
  refine wpAny_Call_method (T := "dict") (id := "dict.items") hbase rfl hline PySem.F.plainAttrs_dict PySem.F.slot_dict_items PySem.F.type_dict_items (thn (he.run pins s σ H _ I h) fun u s1 ⟨x, H1, I1, rx, d, o, kvs, ex, hd, q⟩ => ?_)
  subst ex
  cases rx
  obtain ⟨hs, hgd, hx, es, ep, hdt, hsz, ent⟩ := frzTv I1 hd
  have raw : DT.Raw s1.heap d es ep := ⟨o, hgd, hx, hdt⟩
  refine ⟨raw.typeIs, fun ob eo => by cases eo; exact ⟨o, hgd, hx.2.1⟩, ?_⟩
  have I2 : Inv X pins σ H1 { s1 with heap := s1.heap.push { cls := .type "dict_items", data := .fields #[.ref d] } } := I1.kept (t' := s1.toks) fun b ob q => Heap.get?_push_of_some _ q
  have fin : wpAny (model X.prog X.w) X.A (pyIter (.ref s1.heap.objs.size)) (PIE X pins σ (.Tuple elts kk tpos) R) X.xe { s1 with heap := s1.heap.push { cls := .type "dict_items", data := .fields #[.ref d] } } := by
    refine DT.iterI (d := d) ⟨_, Heap.get?_push_size _ rfl, rfl, rfl⟩ (raw.push _) (pi_one (tk := s1.toks) I2 _ (turn_itemsT _ hdt) ⟨.none, .none, ?_⟩ q)
    rw [← hsz]
    exact Heap.get?_push_size _ rfl
  show wpAny _ _ (callWith cpos (.builtin "dict.items") [.ref d] [] []) _ X.xe s1
  exact method_meetsIn PySem.F.slot_dict_items PySem.F.entry_dict_items rfl (PySem.evalArgs_none ⟨rfl, raw.typeIs, PySem.F.args_dict_items_1 _, _, DT.meetsItems hs, raw, fin⟩)⟩
/-! list(d) of a dict with tuple keys -/
section
variable {prog : Program} {w : World} {A : Around}
theorem Raw.pyIter {E Q : Value → Shared → Prop} {s : Shared} {a : Addr} (lo : (a == sysModules) = false) (x : DT.Raw s.heap a es ep) (h : Q (.ref s.heap.objs.size) { s with heap := s.heap.push { cls := .type "dict_keyiterator", data := .fields #[.ref a, .int 0 0, .int es.size 0, .int ep 0] } }) : wpAny (model prog w) A (pyIter (.ref a)) Q E s := by
  obtain ⟨ob, ho, hx, hd⟩ := x
  exact iter_keys lo ho hx hd h
theorem rawWalk (hh : A.handled = none) (I a : Addr) (hne : a ≠ I) (ob : Obj) (hd : ob.data = .dict es ep) :
    Walks prog w A I [I, a] [I] es.size (fun i v => ∃ en, es[i]? = some en ∧ v = en.key) (fun i h => h.IsKeyIter I a i es.size ep ∧ h.get? a = some ob) where
  sub := fun b hb => by
    obtain rfl := List.mem_singleton.mp hb
    exact List.mem_cons_self
  frame := fun _ h h' st hk => ⟨st.1.at fun o e => hk I List.mem_cons_self o e, hk a (by simp) _ st.2⟩
  item := fun i s Q E hi st hQ => by
    refine next_key_item st.1 st.2 hd rfl (Array.getElem?_eq_getElem hi) fun h' st' sb => ?_
    exact hQ _ h' s.toks ⟨_, Array.getElem?_eq_getElem hi, rfl⟩ ⟨st', (sb.2 a hne).trans st.2⟩ fun b o hb e => (sb.2 b (fun z => hb (List.mem_singleton.mpr z))).trans e
  done := fun s Q E st hQ => next_key_end hh st.1 st.2 hd rfl (Nat.le_refl _) fun h' eb => hQ h' s.toks fun b o hb e => eb b o (fun z => hb (List.mem_singleton.mpr z)) e
  self := fun i s Q E st h => wpAny_pyIter_keyiter st.1 h
theorem rawSrc {a : Addr} (lo : (a == sysModules) = false) (ob : Obj) (hx : ob.ExactDict) (hd : ob.data = .dict es ep) : PySem.W.KdlSrc prog w "dict" a a es.size (fun i v => ∃ en, es[i]? = some en ∧ v = en.key) (fun h => h.get? a = some ob) where
  type := fun s h => ⟨ob, h, hx.1⟩
  there := fun h e => ⟨Heap.lt_size e, Heap.lt_size e⟩
  keep := fun h h' e k => k a (.inl rfl) _ e
  notList := by decide
  notTuple := by decide
  hint := fun _ _ s _ h q => PySem.W.kdl_hint_dict (show s.TypeIs (.ref a) "dict" from ⟨ob, h, hx.1⟩) q
  iter := fun A s hh h => ⟨_, _, (fun _ _ hq => Raw.pyIter lo ⟨ob, h, hx, hd⟩ hq), rawWalk hh s.heap.objs.size a (Nat.ne_of_lt (Heap.lt_size h)) ob hd, ⟨⟨_, Heap.get?_push_size _ rfl, rfl, rfl⟩, Heap.get?_push_of_some _ h⟩⟩
end
def rListT : List V → Hp → VK → Prop := fun xs H Q => ∃ (a : Addr) (kvs : List (List Key × V)), xs = [.ref a] ∧ H a = some (.dT kvs) ∧
  ∀ l (qs : List Addr), H l = none → Paired (fun q p => H q = some (.tup (p.1.map kV))) qs kvs → Q (.ref l) (upd H l (.lst (qs.map V.ref)))
theorem pair_of {α β : Type} {F : α → β → Prop} : ∀ {l : List β}, (∀ (i : Nat) b, l[i]? = some b → ∃ a, F a b) → ∃ as, Paired F as l
  | [], _ => ⟨[], .nil⟩
  | b :: l, h => by
    obtain ⟨a, ha⟩ := h 0 b rfl
    obtain ⟨as, q⟩ := pair_of (l := l) fun i b hb => h (i + 1) b hb
    exact ⟨a :: as, .cons ha q⟩
theorem call_listT {X : Cx} (hcalm : X.calm = true) : CallR X (.type "list") rListT := by
  intro pins s σ H xs us Q I r q
  obtain ⟨a, kvs, ex, hd, q⟩ := q
  subst ex
  obtain ⟨u, eu, rx⟩ := vals1 r
  subst eu
  cases rx
  obtain ⟨z, lo, ps, pr, ob, es, ep, ho, hx, hdt, he, ndp⟩ := I.hok a _ hd
  clear ndp
  have l1 : es.size = ps.length := size_of_entries he
  have l2 : kvs.length = ps.length := Paired.length pr
  refine PySem.W.kdl_call (rawSrc lo ob hx hdt) (I.ok.hd hcalm) ho (by omega) fun h' tk acc c' hk hD hacc => ?_
  have hp : Paired (fun q p => H q = some (.tup (p.1.map kV))) (ps.map fun b => b.2.1) kvs := by
    clear l2 he l1 z q hd
    induction pr with
    | nil => exact .nil
    | cons h _ ih => exact .cons h.2.1 ih
  have hv : Vals ((ps.map fun b => b.2.1).map V.ref) acc.toList := by
    have len : acc.toList.length = ps.length := by rw [Array.length_toList, hacc.1, l1]
    have at_ : ∀ (j : Nat) (v : Value), acc.toList[j]? = some v → ∃ b, ps[j]? = some b ∧ v = .ref b.2.1 := fun j v e => by
      obtain ⟨en, e1, e2⟩ := hacc.2 j v (by rw [← Array.getElem?_toList]; exact e)
      have e3 := entry_at he j
      rw [e1] at e3
      cases e4 : ps[j]? with
      | none =>
        rw [e4] at e3
        cases e3
      | some b =>
        rw [e4] at e3
        cases e3
        exact ⟨b, rfl, e2⟩
    clear hacc hD l1 he pr l2 hp
    generalize acc.toList = l at len at_
    induction l generalizing ps with
    | nil =>
      have : ps = [] := List.length_eq_zero_iff.mp len.symm
      subst this
      exact .nil
    | cons v l ih =>
      cases ps with
      | nil => cases len
      | cons b ps =>
        obtain ⟨b', e1, e2⟩ := at_ 0 v rfl
        cases e1
        exact .cons e2 (ih ps (by simpa using len) fun j w e => at_ (j + 1) w e)
  refine ⟨.ref s.heap.objs.size, _, I.laid (t' := tk) hk (Nat.le_refl _) (o := .lst ((ps.map fun b => b.2.1).map V.ref))
    ⟨by rw [List.length_map, List.length_map]; omega, acc.toList, c', hv, by rw [Array.toArray_toList]; exact hD⟩, rfl, q _ _ (I.hok.fresh (Nat.le_refl _)) hp⟩
/-! enumerate of a tuple -/
theorem meets_enumT {v : Value} {o : Obj} {HH : Heap → Prop} (B : PySem.Begins v o HH) :
    Meets (Builtin.«enumerate.__new__» ⟨[.type "enumerate", v], []⟩) (fun _ R s => HH s.heap ∧
      R (.ok (.ret (.ref (s.heap.push o).objs.size))) { s with heap := (s.heap.push o).push { cls := .type "enumerate", data := .fields #[.none, .bool false, .ref s.heap.objs.size, rawInt 0, .none, .none] } }) :=
  .of_wp fun prog w A R s h => by
    obtain ⟨hp, g, dd, tk, os⟩ := s
    obtain ⟨h1, h⟩ := h
    have sub := sub_enumerate
    have begin_ : ∀ {A' : Around} {E : Value → Shared → Prop} {Q : Value → Shared → Prop}, Q (.ref hp.objs.size) ⟨hp.push o, g, dd, tk, os⟩ → wpAny (model prog w) A' (pyIter v) Q E ⟨hp, g, dd, tk, os⟩ :=
      fun q => B.iter prog w _ _ ⟨hp, g, dd, tk, os⟩ _ h1 q
    wp_walk using begin_
    refine wpAny_stack_any fun st => wpAny_pure ?_
    split
    · rename_i c _ _ _ _ _
      cases (c == Value.type "enumerate") <;> (wp_walk using begin_; exact ⟨_, rfl, h⟩)
    · wp_walk using begin_
      exact ⟨_, rfl, h⟩
theorem call_enumB {prog : Program} {w : World} {A : Around} {E Q : Value → Shared → Prop} {s : Shared} {v : Value} {o : Obj} {HH : Heap → Prop} (B : PySem.Begins v o HH) (h1 : HH s.heap)
    (h : ∀ h', IsEnum h' (s.heap.objs.size + 1) s.heap.objs.size 0 .none → h'.get? s.heap.objs.size = some o → h'.objs.size = s.heap.objs.size + 2 → (∀ b o, s.heap.get? b = some o → h'.get? b = some o) → Q (.ref (s.heap.objs.size + 1)) { s with heap := h' }) :
    wpAny (model prog w) A (call (.type "enumerate") [v]) Q E s := by
  refine callType_new PySem.F.called_enumerate (by decide) (PySem.F.typeCall_enumerate_1 _) (PySem.F.newCall_enumerate_1 _) (fun obj => PySem.F.args_object_init_2 obj _) PySem.F.entry_enumerate_new (meets_enumT B) ⟨h1, ?_⟩
  have hz : (s.heap.push o).objs.size = s.heap.objs.size + 1 := Heap.size_push ..
  show _ ∧ _
  rw [hz]
  have made : IsEnum ((s.heap.push o).push { cls := .type "enumerate", data := .fields #[.none, .bool false, .ref s.heap.objs.size, rawInt 0, .none, .none] }) (s.heap.objs.size + 1) s.heap.objs.size 0 .none := by
    have z := Heap.get?_push_size (s.heap.push o) (o := { cls := .type "enumerate", data := .fields #[.none, .bool false, .ref s.heap.objs.size, rawInt 0, .none, .none] }) rfl
    rw [hz] at z
    exact z
  exact ⟨⟨_, made, rfl⟩, h _ made (Heap.get?_push_of_some _ (Heap.get?_push_size _ B.free)) (by rw [Heap.size_push, hz]) fun b o x => Heap.get?_push_of_some _ (Heap.get?_push_of_some _ x)⟩
end
end Gd
set_option Elab.async false
set_option linter.all false
set_option maxRecDepth 100000
set_option maxHeartbeats 4000000
namespace Gd
open PySem PySem.Spec PyProof.Rows L2
/-! for i, x in enumerate(t), t a tuple -/
def Itet (K : PySem.W.Frag) (a : Addr) : It :=
  ⟨fun i H => ∃ (xs : List V) (x : V), SqT K H a xs ∧ xs[i]? = some x, fun i H v H' => ∃ T x, v = .ref T ∧ H T = none ∧ H' = upd H T (.tup [.int (i : Nat), x]) ∧ ∀ xs, SqT K H a xs → xs[i]? = some x, fun i H => ∃ xs : List V, SqT K H a xs ∧ xs.length = i⟩
theorem turn_enumT {P : Program} {w : World} {K : PySem.W.Frag} {elts : List Expr} {kk : Nat} {tpos : Pos} (a e it : Addr) (hat : a ≠ it) (hae : a ≠ e) :
    Turn P w K (.Tuple elts kk tpos) (Itet K a) [e, it] e (fun i h => (∃ old, IsEnum h e it ((i : Nat) : Int) old) ∧ h.IsTupleIter it a i ∧ e ≠ it) where
  mem := List.mem_cons_self
  obj := fun i h ⟨⟨old, he⟩, ⟨o, ho, hc, hd⟩, _⟩ b hb => by
    rcases List.mem_cons.mp hb with rfl | hb
    · exact ⟨_, he, nofun⟩
    · obtain rfl := List.mem_singleton.mp hb
      exact ⟨o, ho, fun v q => by rw [hd] at q; cases q⟩
  keep := fun i h h' ⟨⟨old, he⟩, hi, hne⟩ k => ⟨⟨old, k e List.mem_cons_self _ he⟩, hi.at fun o q => k it (by simp) o q, hne⟩
  item := by
    intro X hP hw hK hc i pins s σ H E I hf ⟨⟨old, he⟩, hit, hne⟩ ⟨xs, x, hq, hx⟩
    subst hP hw hK
    obtain ⟨its, rv, p, hz⟩ := I.tuple hq
    obtain ⟨u, hu, ru⟩ := rv.get hx
    have len := rv.length
    have hlt : i < its.toArray.size := by
      rw [List.size_toArray, ← len]
      exact (List.getElem?_eq_some_iff.mp hx).1
    have hel : e < s.heap.objs.size := Heap.lt_size he
    have hil : it < s.heap.objs.size := by
      obtain ⟨_, q, _⟩ := hit
      exact Heap.lt_size q
    have D := Draws.tuple (prog := X.prog) (w := X.w) (A := X.A.in1) (I.ok.hd hc) it a hat its.toArray
    refine wpAny_pyNext_enum_itemD D he ⟨hit, p⟩ hlt hne (by simp [hne, hae.symm]) fun y h1 tk hy ho1 st1 hT hsz hk => ?_
    have ey : y = u := by
      have hy' : its[i]? = some y := by simpa using hy
      rw [hu] at hy'
      exact (Option.some.inj hy').symm
    subst ey
    refine ⟨_, rfl, wpAny_letOwnedTupleGo_enum (s := { s with heap := h1, toks := tk + 1 }) ho1 fun h2 he2 sb => ?_⟩
    have fresh := I.hok.fresh (Nat.le_refl s.heap.objs.size)
    have hT2 : h2.get? s.heap.objs.size = some { cls := .type "tuple", data := .seq #[.int i tk, y] } := (sb.2 _ (Nat.ne_of_gt hel)).trans hT
    have new : ObjOk X.prog X.w (upd H s.heap.objs.size (.tup [.int (i : Nat), x])) h2 s.heap.objs.size (.tup [.int (i : Nat), x]) :=
      ⟨by show 2 ≤ sizeLine; decide, [.int i tk, y], .cons ⟨_, rfl⟩ (.cons ru .nil), ⟨_, hT2, rfl, _, rfl⟩⟩
    have I1 : Inv X pins σ (upd H s.heap.objs.size (.tup [.int (i : Nat), x])) { s with heap := h2, toks := tk + 1 } :=
      I.turnedNew (ch := [e, it]) (fun b ob hb q => (sb.2 b (fun z => hb (by simp [z]))).trans (hk b ob (fun z => hb (by simp [z])) (fun z => hb (by simp [z])) q)) hf (Nat.le_refl _) new
    refine ⟨.ref s.heap.objs.size, _, I1, rfl, ⟨_, x, rfl, fresh, rfl, fun ys hy => by rw [I.tuple_inj hy hq]; exact hx⟩, ⟨⟨y, ?_⟩, st1.1.at fun o q => (sb.2 it hne.symm).trans q, hne⟩, fun b hb => ?_⟩
    · have e1 : ((i + 1 : Nat) : Int) = (i : Int) + 1 := by omega
      rw [e1]
      exact he2
    · have hb' : b < s.heap.objs.size := by
        rcases List.mem_cons.mp hb with rfl | hb
        · exact hel
        · obtain rfl := List.mem_singleton.mp hb
          exact hil
      rw [upd_ne (Nat.ne_of_lt hb')]
      exact (hf b hb).1
  done := by
    intro X hP hw hK hc i pins s σ H E I hf ⟨⟨old, he⟩, hit, hne⟩ ⟨xs, hq, hx⟩
    subst hP hw hK
    obtain ⟨its, rv, p, hz⟩ := I.tuple hq
    obtain ⟨f0, f1, f2, f3, f4, f5⟩ := hf it (by simp)
    have len := rv.length
    have D := Draws.tuple (prog := X.prog) (w := X.w) (A := X.A.in1) (I.ok.hd hc) it a hat its.toArray
    have e1 : its.toArray.size = i := by rw [List.size_toArray, ← len, hx]
    exact wpAny_pyNext_enum_endD D he ⟨by rw [e1]; exact hit, p⟩ fun h1 eb => ⟨rfl, I.turned (t' := s.toks) (fun b o hb q => eb b o hb q) f0 f1 f3 f4 f5⟩
  self := fun A i s Q E ⟨⟨_, he⟩, _⟩ h => wpAny_pyIter_enum he h
def iEnumT (K : PySem.W.Frag) (ta : TA) : TI := fun σ H R => ta σ H fun vs H1 => ∃ a xs, vs = [.ref a] ∧ SqT K H1 a xs ∧ R (Itet K a) H1
theorem pi_enumT {X : Cx} {e : Expr} {ta : TA} {p pos tpos : Pos} {elts : List Expr} {kk : Nat} (hg : Gl X "enumerate") (hm : X.mg "enumerate" = none) (ha : PA X [e] ta) (hs : starEach [e] X.env = [(false, eval e X.env)] := by rfl) :
    PI X (.Tuple elts kk tpos) (.Call (.Name "enumerate" p) [e] [] pos) (iEnumT X.K ta) := ⟨fun pins s σ H R I h => by
  refine Call_ (ld_blt I hg hm boot_enumerate (PyProof.Rows.callWith_type1 (thn (ha.run pos pins s σ H _ I h) fun us s1 ⟨vs, H1, I1, r1, q1⟩ => ?_) hs rfl))
  obtain ⟨a, xs, ex, hq, q⟩ := q1
  subst ex
  cases r1 with
  | cons r rr =>
    cases rr
    cases r
    obtain ⟨its, rv, p', hz⟩ := I1.tuple hq
    have al : a < s1.heap.objs.size := by
      obtain ⟨o, ho, _⟩ := id p'
      exact Heap.lt_size ho
    refine call_enumB (begins_tuple a its.toArray) p' fun h' he hit hsz hk => wpAny_pyIter_enum he ?_
    have I2 : Inv X pins σ H1 { s1 with heap := h' } := I1.kept (t' := s1.toks) hk
    refine ⟨s1.heap.objs.size + 1, [s1.heap.objs.size + 1, s1.heap.objs.size], _, _, H1, rfl, I2, turn_enumT a (s1.heap.objs.size + 1) s1.heap.objs.size (Nat.ne_of_lt al) (Nat.ne_of_lt (Nat.lt_succ_of_lt al)), ⟨⟨.none, he⟩, ⟨_, hit, rfl, rfl⟩, Nat.succ_ne_self _⟩, fun b hb => ?_, q⟩
    have hle : s1.heap.objs.size ≤ b := by
      rcases List.mem_cons.mp hb with z | hb
      · rw [z]
        exact Nat.le_add_right _ _
      · rw [List.mem_singleton.mp hb]
        exact Nat.le_refl _
    exact I1.fpOk hle (I1.hok.fresh hle)⟩
theorem walk_enumT {K : PySem.W.Frag} {a : Addr} {xs : List V} : Walk (Itet K a) xs.length (fun H => SqT K H a xs) (YPair (fun i => some (.int (i : Nat))) (fun i => xs[i]?)) :=
  ⟨fun i _ hi q => ⟨xs, xs[i], q, by simp [hi]⟩, fun _ q => ⟨xs, q, rfl⟩, fun i H v H' _ q ⟨T, x, h1, h2, h3, h4⟩ => ⟨T, .int (i : Nat), x, h1, h2, h3, rfl, h4 xs q⟩⟩
theorem walk_itemsT {d : Addr} {o : Obj} {kvs : List (List Key × V)} : Walk (Itit d o kvs) kvs.length (fun H => H d = some (.frz o (.dT kvs))) (fun i H x H' => ∃ T q k v, kvs[i]? = some (k, v) ∧ H q = some (.tup (k.map kV)) ∧ x = .ref T ∧ H T = none ∧ H' = upd H T (.tup [.ref q, v])) :=
  ⟨fun _ _ hi q => ⟨q, hi⟩, fun _ q => ⟨q, Nat.le_refl _⟩, fun _ _ _ _ _ _ y => y⟩
end Gd
set_option Elab.async false
set_option linter.all false
set_option maxRecDepth 100000
set_option maxHeartbeats 4000000
/-! {k: v for .. in ..} whose keys are tuples -/
namespace Gd
open PySem PySem.Spec PyProof.Rows L2
theorem setT {X : Cx} {pins : List (Addr × Obj)} {σ : L2.St} {H : Hp} {s : Shared} {E : Value → Shared → Prop} {D b : Addr} {kvs : List (List Key × V)} {k : List Key} {v : V} {r : Value} {Q : Unit → Shared → Prop} (hu : X.A.units + 1 < cLine) (I : Inv X pins σ H s) (hD : H D = some (.dT kvs)) (hz : kvs.length < sizeLine)
    (hb : H b = some (.tup (k.map kV))) (rv : RelV v r) (h : ∀ t, Inv X pins σ (upd H D (.dT (putK kvs k v))) t → Q () t) : wpAny (model X.prog X.w) X.A (dictSet D (.ref b) r) Q E s := by
  obtain ⟨z, lo, xs, rel, dd⟩ := dt_of I.hok hD
  have sz : xs.length ≤ sizeLine := by rw [← Paired.length rel]; exact z
  have more : (putK kvs k v).length ≤ sizeLine := by
    have := length_putK kvs k v
    omega
  refine wpAny_dictSet_heap (hsz := sz) (show (tupleKind (mixKind X.prog X.w)).room X.A from Nat.lt_of_succ_lt hu) (key_of I.hok hb) dd fun h1 dd1 same => h _ ?_
  obtain ⟨q, es, ep, g1, g2, g3, g4, _, g5⟩ := dd1
  refine d_write I (by rw [hD]; exact True.intro) same ⟨q, g1⟩ ⟨more, lo, _, (rel.put k hb rv).keeps fun c ys ec => ?_, q, es, ep, g1, g2, g3, g4, g5⟩
  have ne : c ≠ D := ne_of ec hD nofun
  rw [upd_ne ne]
  exact ec
/-- as tDc, the keys tuples that stand in H -/
def tDcT (wi : TI) (g : TG) (tt : TT) (tk tv : TE) (vs : List Nat) : TE := fun σ H Q => wi σ H fun J H1 => ∀ D, H1 D = none → ∃ W : Nat → Nat → Hp → Prop, (∃ m, W 0 m (upd H1 D (.dT []))) ∧ ∀ i m H, W i m H →
  (J.stop i H ∧ Q (.ref D) H) ∨ (J.go i H ∧ ∃ Nx : Hp → Prop, (∀ H', Nx H' → ∃ m', m' < m ∧ W (i + 1) m' H') ∧ ∀ x H', J.yld i H x H' → g x (wipe σ vs) H' fun σ2 H2 => wipe σ2 vs = wipe σ vs ∧ tt σ2 H2 fun b H3 =>
    if b = true then tk σ2 H3 fun y H4 => tv σ2 H4 fun z H5 => ∃ kvs k q, y = .ref q ∧ H5 q = some (.tup (k.map kV)) ∧ H5 D = some (.dT kvs) ∧ kvs.length < sizeLine ∧ Nx (upd H5 D (.dT (putK kvs k z))) else Nx H3)
section
variable {X : Cx}
theorem pe_dcT {kx vx tg iter : Expr} {ifs : List Expr} {scope : Scope} {own : List (Str × Nat)} {pos : Pos} {wi : TI} {g : TG} {tt : TT} {tk tv : TE} (hu : X.A.units + 1 < cLine) (hc : X.calm = true) (hN : X.N.Nodup) (hi : PI X tg iter wi) (ok : BlkOk X.N X.env.scope scope own)
    (hg : ∀ (s : Shared) (H : Hp) (C : Addr) (cl : List (Str × Addr)) (fp : List Addr), PG (X.blk s H scope (compEnvC scope cl C X.env) fp) tg g)
    (ht : ∀ (s : Shared) (H : Hp) (C : Addr) (cl : List (Str × Addr)) (fp : List Addr), PTs (X.blk s H scope (compEnvC scope cl C X.env) fp) ifs tt)
    (hk : ∀ (s : Shared) (H : Hp) (C : Addr) (cl : List (Str × Addr)) (fp : List Addr), PE (X.blk s H scope (compEnvC scope cl C X.env) fp) kx tk)
    (he : ∀ (s : Shared) (H : Hp) (C : Addr) (cl : List (Str × Addr)) (fp : List Addr), PE (X.blk s H scope (compEnvC scope cl C X.env) fp) vx tv) (hs : ∀ x, foldedSetIterable iter X.env x = pure x := by intro _; rfl) :
    PE X (.DictComp kx vx [⟨tg, iter, ifs, 0⟩] scope pos) (tDcT wi g tt tk tv (own.map (·.2))) := ⟨fun pins s σ H Q I h => by
  rw [arm_eval_DictComp]
  have caught : ∀ y ∈ scope.names, y.2 = .free → ∃ c, X.env.cells.lookup y.1 = some c := fun y hy e => (ok.free y hy e).elim (fun k => I.ok.has _ (.inl k)) fun k => I.ok.has _ (.inr k)
  refine wpAny_comprehension_free (use := none) rfl hs (closure_ok caught) ok.kind (fun y hy e => by rw [ok.uniq y hy, e]) (thn (hi.run pins s σ H _ I h) fun xv t1 hx => thn hx fun itv t2 got => ?_)
  obtain ⟨it, fp, tn, J, G2, ev, I2, T, on2, f2, q⟩ := got
  subst ev
  refine wpAny_newObj_type (newEnv_comp ?_)
  obtain ⟨D, hD⟩ : ∃ D, t2.heap.objs.size = D := ⟨_, rfl⟩
  rw [hD]
  have nD : G2 D = none := I2.hok.fresh (Nat.le_of_eq hD)
  obtain ⟨W, ⟨m0, w0⟩, turn⟩ := q D nD
  obtain ⟨t3, e3⟩ : ∃ t3 : Shared, ({ t2 with heap := t2.heap.push { cls := .type "dict", data := .dict #[] } } : Shared) = t3 := ⟨_, rfl⟩
  have hp3 : t3.heap = t2.heap.push { cls := .type "dict", data := .dict #[] } := by rw [← e3]
  have I3 : Inv X pins σ (upd G2 D (.dT [])) t3 := by
    rw [← e3]
    exact I2.laid (t' := t2.toks) (fun b o e => Heap.get?_push_of_some _ e) (Nat.le_of_eq hD) (hD ▸ dt_empty t2.heap I2.big)
  have old : ∀ b ∈ fp, b < t2.heap.objs.size := fun b hb => by
    obtain ⟨o, e, _⟩ := T.obj _ _ on2 b hb
    exact Heap.lt_size e
  have f3 : ∀ b ∈ fp, FpOk X pins (upd G2 D (.dT [])) b ∧ b < t3.heap.objs.size := fun b hb => by
    have lt := old b hb
    have nb : b ≠ D := by rw [← hD]; exact Nat.ne_of_lt lt
    exact ⟨⟨by rw [upd_ne nb]; exact (f2 b hb).1, (f2 b hb).2⟩, by rw [hp3, Heap.size_push]; exact Nat.lt_succ_of_lt lt⟩
  have on3 : tn 0 t3.heap := T.keep _ _ _ on2 fun b _ o e => by rw [hp3]; exact Heap.get?_push_of_some _ e
  have I4 := block_start I3 ok hN f3
  obtain ⟨cl, ecl⟩ : ∃ cl, cellsFrom (t3.heap.objs.size + 1) scope.names (cloFrom X.env.cells scope.names []) = cl := ⟨_, rfl⟩
  rw [ecl] at I4
  have pg := hg t3 (upd G2 D (.dT [])) t3.heap.objs.size cl fp
  have pt := ht t3 (upd G2 D (.dT [])) t3.heap.objs.size cl fp
  have pk := hk t3 (upd G2 D (.dT [])) t3.heap.objs.size cl fp
  have pv := he t3 (upd G2 D (.dT [])) t3.heap.objs.size cl fp
  have goal : codeAny (model X.prog X.w) X.A (.compStart (.DictComp kx vx [⟨tg, iter, ifs, 0⟩] scope pos) 0 (.ref it) (.ref D) (compEnvC scope cl t3.heap.objs.size X.env)) (compPost (model X.prog X.w) X.A X.xe none (EP X pins σ Q) (.ref D) t3.heap.objs.size) { t3 with heap := pushCells (t3.heap.push { cls := .type "dict", data := .dict #[] }) scope.names } := by
    obtain ⟨ce, hce⟩ : ∃ ce, compEnvC scope cl t3.heap.objs.size X.env = ce := ⟨_, rfl⟩
    rw [hce] at I4 pg pt pk pv ⊢
    have cL : ce.locals = t3.heap.objs.size := by subst hce; rfl
    have off3 : ∀ b ∈ fp, (upd G2 D (.dT [])) b = none := fun b hb => (f3 b hb).1.1
    obtain ⟨G3, hG3⟩ : ∃ G3, upd G2 D (.dT []) = G3 := ⟨_, rfl⟩
    rw [hG3] at I3 I4 pg pt pk pv w0 off3 f3
    obtain ⟨t4, e4⟩ : ∃ t4 : Shared, ({ t3 with heap := pushCells (t3.heap.push { cls := .type "dict", data := .dict #[] }) scope.names } : Shared) = t4 := ⟨_, rfl⟩
    rw [e4] at I4 ⊢
    have on4 : tn 0 t4.heap := T.keep _ _ _ on3 fun b _ o e => by rw [← e4]; exact pushCells_keeps _ _ _ _ (Heap.get?_push_of_some _ e)
    have foot : ∀ {ρ : L2.St} {G : Hp} {t : Shared}, Inv (X.blk t3 G3 scope ce fp) [] ρ G t → (∀ b ∈ fp, G b = none) → ∀ b ∈ fp, FpOk (X.blk t3 G3 scope ce fp) [] G b := fun {ρ G t} J' off b hb =>
      ⟨off b hb, (J'.ok.exf b hb).1, J'.ok.exfs b hb, .inl hb, fun x c e => (J'.ok.exf b hb).2 x c e, fun p hp => absurd (show p ∈ ([] : List (Addr × Obj)) ++ [] from hp) (by simp)⟩
    have loop : codeAny (model X.prog X.w) X.A (.compLoop (.DictComp kx vx [⟨tg, iter, ifs, 0⟩] scope pos) 0 (.ref it) (.ref D) ce) (compPost (model X.prog X.w) X.A X.xe none (EP X pins σ Q) (.ref D) t3.heap.objs.size) t4 := by
      refine compLoop_anyD (fun n t => ∃ i G, Inv (X.blk t3 G3 scope ce fp) [] (wipe σ (own.map (·.2))) G t ∧ tn i t.heap ∧ (∀ b ∈ fp, G b = none) ∧ W i n G) ?_ m0 ⟨0, G3, I4, on4, off3, w0⟩
      rintro n t5 ⟨i, G5, I5, on5, off5, w5⟩
      rcases turn i n G5 w5 with ⟨stop, qq⟩ | ⟨go, Nx, hNx, step⟩
      · refine thnF (T.done (X.blk t3 G3 scope ce fp) rfl rfl rfl hc i [] t5 _ G5 (fun _ _ => False) I5 (foot I5 off5) on5 stop) fun r t6 ⟨hr, I6⟩ => ?_
        subst hr
        have I7 : Inv X pins σ G5 t6 := I3.call' (ch := fp) I6.os I6.base I6.hok I6.bare fun b hb => ⟨(f3 b hb).1.2.2.2.1, (f3 b hb).1.2.1, (f3 b hb).1.2.2.2.2.1, (f3 b hb).1.2.2.2.2.2⟩
        have offC : G5 t3.heap.objs.size = none := cL ▸ (show G5 ce.locals = none from I6.free)
        obtain ⟨m, ns, _⟩ := I6.loc
        have ns : t6.heap.Ns ce.locals m := ns
        rw [cL] at ns
        refine ⟨m, ns, fun h8 same => ?_⟩
        obtain ⟨k0, k1, k2, k3, k4, k5⟩ := I3.fpOk (Nat.le_refl _) offC
        exact ⟨.ref D, G5, I7.turned (t' := t6.toks) (fun b o hb e => (same.2 b hb).trans e) k0 k1 k3 k4 k5, rfl, qq⟩
      · refine thnF (T.item (X.blk t3 G3 scope ce fp) rfl rfl rfl hc i [] t5 _ G5 (fun _ _ => False) I5 (foot I5 off5) on5 go) fun r t6 ⟨u, hr, h6⟩ => ?_
        subst hr
        refine thnF h6 fun _ t7 ⟨x, G7, I7, r7, y7, on7, off7⟩ => ?_
        have pinned := I7.pinned (foot I7 off7) (T.obj _ _ on7)
        refine thnF (pg.run _ t7 _ G7 x u _ pinned r7 (step x G7 y7)) fun _ t8 ⟨ρ, G8, I8, hw8, q8⟩ => ?_
        refine thnF (pt.run _ t8 ρ G8 _ I8 q8) fun b t9 ⟨G9, I9, q9⟩ => ?_
        have close : ∀ {t : Shared} {G : Hp}, Inv (X.blk t3 G3 scope ce fp) ([] ++ pinsAt fp t7.heap) ρ G t → Nx G → ∃ m, m < n ∧ ∃ i G, Inv (X.blk t3 G3 scope ce fp) [] (wipe σ (own.map (·.2))) G t ∧ tn i t.heap ∧ (∀ b ∈ fp, G b = none) ∧ W i m G := fun {t G} J' nx => by
          obtain ⟨m', lt, w'⟩ := hNx G nx
          have stays : ∀ b ∈ fp, ∀ o, t7.heap.get? b = some o → t.heap.get? b = some o ∧ G b = none := fun b hb o e => by
            obtain ⟨z1, z2, _⟩ := J'.pin (b, o) (List.mem_append_right _ (List.mem_append_right _ (mem_pinsAt hb e)))
            exact ⟨z1, z2⟩
          refine ⟨m', lt, i + 1, G, (J'.unpinned (pins := [])).weak (by rw [← hw8, wipe_length]) (fun j v e => (wipe_some (hw8 ▸ e)).1), T.keep _ _ _ on7 fun b hb o e => (stays b hb o e).1, fun b hb => ?_, w'⟩
          obtain ⟨o, e, _⟩ := T.obj _ _ on7 b hb
          exact (stays b hb o e).2
        cases b with
        | false => exact (show ∃ m, m < n ∧ _ from close I9 q9)
        | true =>
          refine thnF (pk.run _ t9 ρ G9 _ I9 q9) fun z t10 ⟨yk, G10, I10, r10, q10⟩ => ?_
          refine thnF (pv.run _ t10 ρ G10 _ I10 q10) fun z2 t11 ⟨yv, G11, I11, r11, kvs, k, b, ek, hb, hD11, hz11, nx⟩ => ?_
          subst ek
          cases r10
          exact setT (X := X.blk t3 G3 scope ce fp) hu I11 hD11 hz11 hb r11 fun t12 I12 => close I12 nx
    exact codeAny_compStart_dict loop (T.self X.A 0 _ _ _ on4 loop)
  rw [← ecl] at goal
  subst e3
  exact goal⟩
end
end Gd
set_option Elab.async false
set_option linter.all false
set_option maxRecDepth 100000
set_option maxHeartbeats 4000000
/-! tuple(xs) as it is made; dict(t) of such a tuple of pairs -/
namespace Gd
open PySem PySem.Spec PyProof.Rows L2
section
variable {X : Cx}
/-- tuple(xs), xs a list: the object itself is told -/
def rTupX (K : PySem.W.Frag) : List V → Hp → VK → Prop := fun xs H Q => ∃ (p : Addr) (ys : List V), xs = [.ref p] ∧ SqL K H p ys ∧ ∀ (l : Addr) (o : Obj), H l = none → o.dict = none → Q (.ref l) (upd H l (.frz o (.tup ys)))
theorem call_tupX : CallR X (.type "tuple") (rTupX X.K) := by
  intro pins s σ H xs us Q I r ⟨p, ys, e, hl, q⟩
  subst e
  obtain ⟨u, e, ru⟩ := vals1 r
  subst e
  cases ru
  obtain ⟨its, rv, pl, hz⟩ := I.list hl
  have n := rv.length
  refine call_tuple_list pl.isList (fun h2 keep => ?_) (by simp only [List.size_toArray] <;> omega)
  have J : Inv X pins σ H { s with heap := h2 } := I.kept (t' := s.toks) keep
  refine ⟨.ref h2.objs.size, _, J.laid (o := .frz { cls := .type "tuple", data := .seq its.toArray } (.tup ys)) (t' := s.toks) (fun b o z => Heap.get?_push_of_some _ z) (Nat.le_refl _) ?_, rfl, q _ _ (J.hok.fresh (Nat.le_refl _)) rfl⟩
  exact ⟨Heap.get?_push_size _ rfl, hz, its, rv, IsTup.new _ _⟩
theorem pairs_at {pins : List (Addr × Obj)} {σ : L2.St} {H : Hp} {s : Shared} (I : Inv X pins σ H s) : ∀ {ps : List Addr} {kvs : List (Key × V)}, Paired (fun p kv => SqT X.K H p [kV kv.1, kv.2]) ps kvs →
    ∃ (prs : List (Key × Value)) (us : List (Value × Value)), KV kvs prs ∧ prs.length = ps.length ∧ us.length = ps.length ∧ ∀ (j : Nat) (u v : Value), us[j]? = some (u, v) → ∃ (b : Addr) (k : Key), ps[j]? = some b ∧ IsTup s.heap b #[u, v] ∧ prs[j]? = some (k, v) ∧ keyIs k u = true
  | _, _, .nil => ⟨[], [], .nil, rfl, rfl, fun j u v e => by simp at e⟩
  | _, _, .cons (a := p) (b := kv) h t => by
    obtain ⟨prs, us, r, l1, l2, hp⟩ := pairs_at I t
    obtain ⟨its, rv, tp, _⟩ := I.tuple h
    obtain ⟨u, y, ei, ru, ry⟩ := vals2 rv
    subst ei
    refine ⟨(kv.1, y) :: prs, (u, y) :: us, .cons ⟨rfl, ry⟩ r, by rw [List.length_cons, List.length_cons, l1], by rw [List.length_cons, List.length_cons, l2], fun j u' v' e => ?_⟩
    match j, e with
    | 0, e =>
      have e' : (u, y) = (u', v') := Option.some.inj e
      cases e'
      exact ⟨p, kv.1, rfl, tp, rfl, kV_is (P := X.prog) (w := X.w) ru⟩
    | j + 1, e => exact hp j u' v' (by simpa using e)
/-- dict(t), t a tuple of pairs whose object is told -/
def rDictT (K : PySem.W.Frag) : List V → Hp → VK → Prop := fun xs H Q => ∃ (a : Addr) (o : Obj) (ps : List Addr) (kvs : List (Key × V)), xs = [.ref a] ∧ H a = some (.frz o (.tup (ps.map V.ref))) ∧ o.dict = none ∧ Paired (fun p kv => SqT K H p [kV kv.1, kv.2]) ps kvs ∧
  ∀ p, H p = none → Q (.ref p) (upd H p (.dK (mergeK [] kvs)))
theorem call_dictT (hcalm : X.calm = true) : CallR X (.type "dict") (rDictT X.K) := by
  intro pins s σ H xs us Q I r ⟨a, o, ps, kvs, e, ha, hd, hp, q⟩
  subst e
  obtain ⟨u, e, ru⟩ := vals1 r
  subst e
  cases ru
  obtain ⟨ho, hz, its, rv, o', ho', hc, n, dat⟩ := I.hok a _ ha
  rw [ho] at ho'
  cases ho'
  have ei := refs_at rv
  subst ei
  rw [List.length_map] at hz
  obtain ⟨prs, ws, rel, l1, l2, at_⟩ := pairs_at I hp
  have P := PySem.PairArg.tuple (prog := X.prog) (w := X.w) a (ps.map Value.ref).toArray (fun j => ps.getD j 0) ws
  refine PySem.call_dict_pairs (knd := mixKind X.prog X.w) (kvs := prs) P (I.ok.hd hcalm) ⟨⟨o, n, ho, hc, hd, dat⟩, by simp [l2], fun j k v e => ?_⟩ ⟨by rw [l1, l2], fun j k v e => ?_⟩ (by rw [l2]; exact hz) fun h' tk hd' keep => ?_
  · obtain ⟨b, k', e1, e2, _⟩ := at_ j k v e
    have e3 : ps.getD j 0 = b := by rw [List.getD_eq_getElem?_getD, e1] <;> rfl
    show (ps.map Value.ref).toArray[j]? = some (.ref (ps.getD j 0)) ∧ PairAt s.heap (ps.getD j 0) k v
    rw [e3]
    exact ⟨by simp [e1], .inl e2⟩
  · obtain ⟨b, k', _, _, e3, e4⟩ := at_ j k v e
    exact ⟨k', e3, e4⟩
  · have big : (s.heap.objs.size == sysModules) = false := beq_eq_false_iff_ne.mpr (Nat.ne_of_gt I.big)
    have len : (mergeK [] kvs).length ≤ sizeLine := by
      have q1 := length_mergeK kvs []
      have q2 := rel.length
      rw [List.length_nil] at q1
      omega
    exact ⟨.ref s.heap.objs.size, _, I.laid (o := .dK (mergeK [] kvs)) (t' := tk) (fun b o z => keep b o (by simp) z) (Nat.le_refl _) ⟨len, big, merged [] prs, KV.merge rel .nil, hd'⟩, rfl, q _ (I.hok.fresh (Nat.le_refl _))⟩
end
end Gd
set_option Elab.async false
set_option linter.all false
set_option maxRecDepth 100000
set_option maxHeartbeats 4000000
/-! t[::-1] of a tuple -/
namespace Gd
open PySem PySem.Spec PyProof.Rows L2
section
variable {prog : Program} {w : World} {A : Around} {E : Value → Shared → Prop} {s : Shared}
theorem adjust_rev (n : Nat) : Builtin.Slice.sliceAdjust none none (-1) (n : Int) = ((n : Int) - 1, -1) := by
  unfold Builtin.Slice.sliceAdjust
  simp
theorem places_rev (n : Nat) : Builtin.Slice.slicePlaces ((n : Int) - 1) (-1) (-1) = n := by
  unfold Builtin.Slice.slicePlaces
  simp
  omega
theorem applied_rev {sl : Addr} {a b c : Value} {n : Nat} {Q : Int × Int × Nat → Shared → Prop} (is : s.heap.IsSliceOf sl a b c) (pa : IsPart a none) (pb : IsPart b none) (pc : IsPart c (some (-1))) (h : Q ((n : Int) - 1, -1, n) s) :
    wpAny (model prog w) A (Builtin.Slice.sliceApplied (.ref sl) (pure (n : Int))) Q E s := by
  obtain ⟨o, ho, _, fs⟩ := id is
  unfold Builtin.Slice.sliceApplied Builtin.Slice.sliceFields
  refine wpAny_bind (wpAny_bind (wpAny_field ho fs (x := a) rfl (wpAny_bind (wpAny_field ho fs (x := b) rfl (wpAny_bind (wpAny_field ho fs (x := c) rfl (wpAny_pure ?_)))))))
  refine wpAny_bind (HT.slicePart_ pc ?_)
  show wpAny _ _ (if ((-1 : Int) == 0) = true then _ else _) _ _ s
  rw [if_neg (show ¬ ((-1 : Int) == 0) = true by decide)]
  refine wpAny_bind (HT.slicePart_ pa (wpAny_bind (HT.slicePart_ pb (wpAny_bind (wpAny_pure ?_)))))
  show wpAny _ _ (match Builtin.Slice.sliceAdjust none none (-1) (n : Int) with | (lo, hi) => pure (lo, (-1 : Int), Builtin.Slice.slicePlaces lo hi (-1))) _ _ s
  rw [adjust_rev]
  show wpAny _ _ (pure ((n : Int) - 1, (-1 : Int), Builtin.Slice.slicePlaces ((n : Int) - 1) (-1) (-1))) _ _ s
  rw [places_rev]
  exact wpAny_pure h
theorem pick_rev (xs : Array Value) : ((List.range xs.size).filterMap fun (k : Nat) => xs[(((xs.size : Int) - 1) + (k : Int) * (-1)).toNat]?) = xs.toList.reverse := by
  have e : (fun (k : Nat) => xs[(((xs.size : Int) - 1) + (k : Int) * (-1)).toNat]?) = (fun m => xs[m]?) ∘ fun k => xs.size - 1 - k := by
    funext k
    have : (((xs.size : Int) - 1) + (k : Int) * (-1)).toNat = xs.size - 1 - k := by omega
    show xs[(((xs.size : Int) - 1) + (k : Int) * (-1)).toNat]? = xs[xs.size - 1 - k]?
    rw [this]
  rw [e, ← List.filterMap_map, PySem.W.krv_range, List.filterMap_reverse, PySem.W.krv_all]
theorem getItem_rev {t sl : Addr} {items : Array Value} {a b c : Value} {Q : Value → Shared → Prop} (ht : IsTup s.heap t items) (is : s.heap.IsSliceOf sl a b c) (pa : IsPart a none) (pb : IsPart b none) (pc : IsPart c (some (-1))) (hz : items.size ≤ sizeLine)
    (h : Q (.ref s.heap.objs.size) { s with heap := s.heap.push { cls := .type "tuple", data := .seq items.toList.reverse.toArray } }) : wpAny (model prog w) A (getItem (.ref t) (.ref sl)) Q E s := by
  have fits : sizeOk (.seq items.toList.reverse.toArray) := by
    show items.toList.reverse.toArray.size ≤ sizeLine
    rw [List.size_toArray, List.length_reverse, Array.length_toList]
    exact hz
  obtain ⟨o, ho, hc, _⟩ := id is
  have ts : s.TypeIs (.ref sl) "slice" := ⟨o, ho, hc⟩
  unfold getItem
  try with_reducible refine wpAny_holding ?_
  first | refine wpAny_bind (wpAny_pure ?_) | skip
  refine wpAny_bind (wpAny_sequenceKey ht.typeIs (by decide) ?_)
  refine wpAny_bind (wpAny_callSpecial?_slot (name := Str.ofString "__getitem__") ht.typeIs PyProof.Rows.slot_tuple_getitem (wpAny_call_entry PyProof.Rows.slot_tuple_getitem ht.typeIs entry_tuple_getitem ?_ (args_tuple_getitem _ _)))
  show wpAny _ _ (Builtin.Tuple.tupleItemsOf (.ref t) >>= _) _ _ s
  refine wpAny_bind (tupleItemsOf_ ht (wpAny_bind (wpAny_typeOf ts ?_)))
  rw [if_pos (show (Value.type "slice" == Value.type "slice") = true by decide)]
  refine wpAny_bind (applied_rev is pa pb pc ?_)
  show wpAny _ _ (if (((items.size : Int) - 1) == 0 && (-1 : Int) == 1 && items.size == items.size) = true then _ else _) _ _ s
  rw [if_neg (by simp), pick_rev]
  first
    | exact wpAny_bind (m := Builtin.Tuple.tupleExact _) (wpAny_newObj_type (wpAny_pure ⟨_, rfl, wpAny_pure h⟩) fits)
    | exact wpAny_bind (m := Builtin.Tuple.tupleExact _) (wpAny_newObj_type (wpAny_bind (wpAny_pure (wpAny_pure ⟨_, rfl, wpAny_pure h⟩))) fits)
    | exact wpAny_bind (wpAny_bind (m := Builtin.Tuple.tupleExact _) (wpAny_newObj_type (wpAny_pure (wpAny_pure ⟨_, rfl, wpAny_pure h⟩)) fits))
    | exact wpAny_bind (wpAny_bind (m := Builtin.Tuple.tupleExact _) (wpAny_newObj_type (wpAny_pure ⟨_, rfl, wpAny_pure h⟩) fits))
end
section
variable {X : Cx}
def tRevT (K : PySem.W.Frag) (te : TE) : TE := fun σ H Q => te σ H fun x H1 => ∃ (a : Addr) (xs : List V), x = .ref a ∧ SqT K H1 a xs ∧ ∀ p, H1 p = none → Q (.ref p) (upd H1 p (.tup xs.reverse))
theorem pe_revT {e : Expr} {te : TE} {k : Nat} {p1 p2 p3 pos : Pos} (he : PE X e te) : PE X (.Subscript e (.Slice none none (some (.UnaryOp .USub (.Constant (.int 1) k p1) p2)) p3) pos) (tRevT X.K te) := by
  refine ⟨fun pins s σ H Q I h => Subscript_ (thn (he.run pins s σ H _ I h) fun v s1 ⟨x, H1, I1, r1, a, xs, ex, hx, q⟩ => ?_)⟩
  subst ex
  cases r1
  have step : PO X (some (.UnaryOp .USub (.Constant (.int 1) k p1) p2)) (tPart (tUn (rU fun i => .int (-i)) (tC (.int 1)))) := po_some (pe_un un_neg pe_int)
  refine wpAny_Slice (thn (po_none.run pins s1 σ H1 (fun o G => o = none ∧ G = H1) I1 ⟨rfl, rfl⟩) fun va s2 ⟨oa, G2, I2, pa, ea, e2⟩ => ?_)
  subst ea e2
  refine thn (po_none.run pins s2 σ G2 (fun o G => o = none ∧ G = G2) I2 ⟨rfl, rfl⟩) fun vb s3 ⟨ob, G3, I3, pb, eb, e3⟩ => ?_
  subst eb e3
  refine thn (step.run pins s3 σ G3 (fun o G => o = some (-1) ∧ G = G3) I3 ⟨1, rfl, -1, rfl, rfl, rfl⟩) fun vc s4 ⟨oc, G4, I4, pc, ec, e4⟩ => ?_
  subst ec e4
  have J : Inv X pins σ G4 { s4 with heap := s4.heap.push { cls := .type "slice", data := .fields #[va, vb, vc] } } := I4.kept (t' := s4.toks) fun b ob z => Heap.get?_push_of_some _ z
  obtain ⟨its, r, ht, hz⟩ := J.tuple hx
  have n := r.length
  show wpAny (model X.prog X.w) X.A (subscriptTail e (.Slice none none (some (.UnaryOp .USub (.Constant (.int 1) k p1) p2)) p3) (.ref a) (.ref s4.heap.objs.size)) (EP X pins σ Q) X.xe { s4 with heap := s4.heap.push { cls := .type "slice", data := .fields #[va, vb, vc] } }
  refine tail_any (ops := [.ref a, .ref s4.heap.objs.size]) ht.typeIs PyProof.Rows.slot_tuple_getitem.lookup ?_ (by with_unfolding_all rfl)
  refine getItem_rev ht (Heap.IsSliceOf.new _ va vb vc) pa pb pc (by rw [List.size_toArray]; omega) ?_
  refine ⟨.ref _, _, J.laid (t' := s4.toks) (o := .tup xs.reverse) (fun b ob z => Heap.get?_push_of_some _ z) (Nat.le_refl _) ?_, rfl, q _ (J.hok.fresh (Nat.le_refl _))⟩
  refine ⟨by rw [List.length_reverse]; exact hz, its.reverse, r.reverse, ?_⟩
  exact IsTup.new _ _
end
end Gd
set_option Elab.async false
set_option linter.all false
set_option maxRecDepth 100000
set_option maxHeartbeats 4000000
/-! the data level: operations and calls -/
namespace Dl
open PySem PySem.Spec PyProof.Rows L2 Evl Gd LamX
section
variable {K : PySem.W.Frag} {B : Base} {F F' H H' : Hp} {v : V} {e : Dv} {δ : Env} {b : Nat} {σ : L2.St} {d : PyData} {ds es : List PyData} {ta tb te : TE} {t u : TT} {R : Dv → Prop} {S : Bool → Nat → Prop} {E : Ed} {x y : Dv}
/-- one list of written names -/
theorem Me.is {e' : Dv} {R : Dv → Nat → Prop} (h : Me K B te δ b fun y b' => y = e ∧ b' = b) (r : R e b) : Me K B te δ b R := h.mono fun _ _ ⟨h1, h2⟩ => by
  rw [h1, h2]
  exact r
theorem opd_pure {r : R2} (h : ∀ F H vx vy (Q : VK), (∃ b, Sr K B b F H) → Df K B F vx x → Df K B F vy y → (∀ z, Dq K F z d → Q z H) → r vx vy H Q) (k : R (.dat d)) : OpD K B r x y R := fun b F H s vx vy hx hy Q q =>
  h F H vx vy Q ⟨b, s⟩ hx hy fun z hz => q z (.dat d) F H k s (Go.refl F H) hz (Nw.no rfl)
theorem opd_I0 {g : Int → Int → V} {i j : Int} (c : CD (g i j) d) (k : R (.dat d)) : OpD K B (rI0 g) (.dat (.int i)) (.dat (.int j)) R := opd_pure (d := d) (fun F H vx vy Q _ hx hy q => by
  cases (show Dq K F vx (.int i) from hx)
  cases (show Dq K F vy (.int j) from hy)
  exact ⟨i, j, rfl, rfl, q _ c.dq⟩) k
theorem opd_I {C : Int → Int → Prop} {g : Int → Int → V} {i j : Int} (hc : C i j) (c : CD (g i j) d) (k : R (.dat d)) : OpD K B (rI C g) (.dat (.int i)) (.dat (.int j)) R := opd_pure (d := d) (fun F H vx vy Q _ hx hy q => by
  cases (show Dq K F vx (.int i) from hx)
  cases (show Dq K F vy (.int j) from hy)
  exact ⟨i, j, rfl, rfl, hc, q _ c.dq⟩) k
theorem opd_eqS {p q : Str} (k : R (.dat (.bool (decide (p = q))))) : OpD K B rEq (.dat (.str p)) (.dat (.str q)) R := opd_pure (d := .bool (decide (p = q))) (fun F H vx vy Q _ hx hy r => by
  cases (show Dq K F vx (.str p) from hx)
  cases (show Dq K F vy (.str q) from hy)
  refine ⟨rfl, r _ ?_⟩
  have : decide (V.str p = V.str q) = decide (p = q) := decide_eq_decide.mpr ⟨fun z => V.str.inj z, fun z => by rw [z]⟩
  rw [this]
  exact .bl _) k
theorem opd_neS {p q : Str} (k : R (.dat (.bool (!decide (p = q))))) : OpD K B rNe (.dat (.str p)) (.dat (.str q)) R := opd_pure (d := .bool (!decide (p = q))) (fun F H vx vy Q _ hx hy r => by
  cases (show Dq K F vx (.str p) from hx)
  cases (show Dq K F vy (.str q) from hy)
  refine ⟨rfl, r _ ?_⟩
  have : decide (V.str p = V.str q) = decide (p = q) := decide_eq_decide.mpr ⟨fun z => V.str.inj z, fun z => by rw [z]⟩
  rw [this]
  exact .bl _) k
theorem opd_eqI {p q : Int} (k : R (.dat (.bool (decide (p = q))))) : OpD K B rEq (.dat (.int p)) (.dat (.int q)) R := opd_pure (d := .bool (decide (p = q))) (fun F H vx vy Q _ hx hy r => by
  cases (show Dq K F vx (.int p) from hx)
  cases (show Dq K F vy (.int q) from hy)
  refine ⟨rfl, r _ ?_⟩
  have : decide (V.int p = V.int q) = decide (p = q) := decide_eq_decide.mpr ⟨fun z => V.int.inj z, fun z => by rw [z]⟩
  rw [this]
  exact .bl _) k
theorem opd_neI {p q : Int} (k : R (.dat (.bool (!decide (p = q))))) : OpD K B rNe (.dat (.int p)) (.dat (.int q)) R := opd_pure (d := .bool (!decide (p = q))) (fun F H vx vy Q _ hx hy r => by
  cases (show Dq K F vx (.int p) from hx)
  cases (show Dq K F vy (.int q) from hy)
  refine ⟨rfl, r _ ?_⟩
  have : decide (V.int p = V.int q) = decide (p = q) := decide_eq_decide.mpr ⟨fun z => V.int.inj z, fun z => by rw [z]⟩
  rw [this]
  exact .bl _) k
theorem opd_ixL {i : Int} (h : atI ds i = some d) (k : R (.dat d)) : OpD K B (rIxL K) (.dat (.list ds)) (.dat (.int i)) R := opd_pure (d := d) (fun F H vx vy Q ⟨b, s⟩ hx hy q => by
  have hx' : Dq K F vx (.list ds) := hx
  cases (show Dq K F vy (.int i) from hy)
  cases hx' with
  | @lst p vs _ hs ha =>
    unfold atI at h
    rw [← ha.len] at h
    cases e : ixN vs.length i with
    | none =>
      rw [e] at h
      cases h
    | some j =>
      rw [e] at h
      obtain ⟨w, hw, hd⟩ := ha.get j d h
      exact ⟨p, vs, i, w, rfl, rfl, lk_l s.lk (.inl hs), by unfold atI; rw [e]; exact hw, q w hd⟩) k
theorem opd_ixT {i : Int} (h : atI ds i = some d) (k : R (.dat d)) : OpD K B (rIxT K) (.dat (.tuple ds)) (.dat (.int i)) R := opd_pure (d := d) (fun F H vx vy Q ⟨b, s⟩ hx hy q => by
  have hx' : Dq K F vx (.tuple ds) := hx
  cases (show Dq K F vy (.int i) from hy)
  cases hx' with
  | @tup p vs _ hs ha =>
    unfold atI at h
    rw [← ha.len] at h
    cases e : ixN vs.length i with
    | none =>
      rw [e] at h
      cases h
    | some j =>
      rw [e] at h
      obtain ⟨w, hw, hd⟩ := ha.get j d h
      exact ⟨p, vs, i, w, rfl, rfl, lk_t s.lk (.inl hs), by unfold atI; rw [e]; exact hw, q w hd⟩) k
theorem opd_ixS {z : Str} {i : Int} {c : Nat} (hz : z.length ≤ 100000) (h : atI z.cps.toList i = some c) (k : R (.dat (.str ⟨#[c]⟩))) : OpD K B rIxS (.dat (.str z)) (.dat (.int i)) R := opd_pure (d := .str ⟨#[c]⟩) (fun F H vx vy Q _ hx hy q => by
  cases (show Dq K F vx (.str z) from hx)
  cases (show Dq K F vy (.int i) from hy)
  exact ⟨z, i, c, rfl, rfl, sz_of hz, h, q _ (.str _)⟩) k
/-- flat data, by values -/
def fl : PyData → Option V
  | .none => some .non
  | .bool b => some (.bl b)
  | .int i => some (.int i)
  | .str x => some (.str x)
  | _ => none
theorem fl_dq {w : V} (h : fl d = some w) (hd : Dq K F v d) : v = w ∧ flatV w = true := by
  cases d <;> first | (cases h; done) | skip
  all_goals (cases h; cases hd; exact ⟨rfl, rfl⟩)
theorem fl_all {ws : List V} {vs : List V} (h : ds.mapM fl = some ws) (hd : DqAll K F vs ds) : vs = ws ∧ ws.all flatV = true := by
  induction ds generalizing vs ws with
  | nil =>
    cases hd
    cases h
    exact ⟨rfl, rfl⟩
  | cons d ds ih =>
    cases hd with
    | cons h1 h2 =>
      rw [List.mapM_cons] at h
      cases e1 : fl d with
      | none =>
        rw [e1] at h
        cases h
      | some w =>
        cases e2 : ds.mapM fl with
        | none =>
          rw [e1, e2] at h
          cases h
        | some ws' =>
          rw [e1, e2] at h
          cases h
          obtain ⟨a1, a2⟩ := fl_dq e1 h1
          obtain ⟨b1, b2⟩ := ih e2 h2
          rw [a1, b1, List.all_cons, a2, b2]
          exact ⟨rfl, rfl⟩
theorem opd_in {neg : Bool} {w : V} {ws : List V} (e1 : fl d = some w) (e2 : ds.mapM fl = some ws) (k : R (.dat (.bool (if neg then !inV w ws else inV w ws)))) : OpD K B (rIn K neg) (.dat d) (.dat (.list ds)) R := opd_pure (d := .bool (if neg then !inV w ws else inV w ws)) (fun F H vx vy Q ⟨b, s⟩ hx hy q => by
  obtain ⟨a1, a2⟩ := fl_dq e1 (show Dq K F vx d from hx)
  have hy' : Dq K F vy (.list ds) := hy
  cases hy' with
  | @lst p vs _ hs ha =>
    obtain ⟨b1, b2⟩ := fl_all e2 ha
    subst a1 b1
    exact ⟨p, vs, rfl, .inl (lk_l s.lk (.inl hs)), a2, b2, q _ (.bl _)⟩) k
theorem opd_inT {neg : Bool} {w : V} {ws : List V} (e1 : fl d = some w) (e2 : ds.mapM fl = some ws) (k : R (.dat (.bool (if neg then !inV w ws else inV w ws)))) : OpD K B (rIn K neg) (.dat d) (.dat (.tuple ds)) R := opd_pure (d := .bool (if neg then !inV w ws else inV w ws)) (fun F H vx vy Q ⟨b, s⟩ hx hy q => by
  obtain ⟨a1, a2⟩ := fl_dq e1 (show Dq K F vx d from hx)
  have hy' : Dq K F vy (.tuple ds) := hy
  cases hy' with
  | @tup p vs _ hs ha =>
    obtain ⟨b1, b2⟩ := fl_all e2 ha
    subst a1 b1
    exact ⟨p, vs, rfl, .inr (lk_t s.lk (.inl hs)), a2, b2, q _ (.bl _)⟩) k
theorem mapM_strs : ∀ xs : List Str, (xs.map PyData.str).mapM fl = some (xs.map V.str)
  | [] => rfl
  | x :: xs => by
    rw [List.map_cons, List.mapM_cons, mapM_strs xs] <;> rfl
theorem inV_str (x : Str) : ∀ ys : List Str, inV (.str x) (ys.map V.str) = ys.contains x
  | [] => rfl
  | y :: r => by
    have ih := inV_str x r
    unfold inV at ih ⊢
    rw [List.map_cons, List.any_cons, ih, List.contains_cons]
    show (y == x || _) = (x == y || _)
    rw [Bool.beq_comm]
theorem opd_inS {neg : Bool} {p : Str} {xs : List Str} (k : R (.dat (.bool (if neg then !xs.contains p else xs.contains p)))) : OpD K B (rIn K neg) (.dat (.str p)) (.dat (.list (xs.map .str))) R := opd_in rfl (mapM_strs xs) (by rw [inV_str]; exact k)
theorem opd_inST {neg : Bool} {p : Str} {xs : List Str} (k : R (.dat (.bool (if neg then !xs.contains p else xs.contains p)))) : OpD K B (rIn K neg) (.dat (.str p)) (.dat (.tuple (xs.map .str))) R := opd_inT rfl (mapM_strs xs) (by rw [inV_str]; exact k)
/-- == of data -/
theorem opd_eqQ {d1 d2 : PyData} (ok : EqOk d1 d2 = true) (k : R (.dat (.bool (PyData.eqv d1 d2)))) : OpD K B (rEqQ K) (.dat d1) (.dat d2) R := opd_pure (d := .bool (PyData.eqv d1 d2)) (fun F H vx vy Q ⟨b, s⟩ hx hy q =>
  ⟨d1, d2, s.dq hx, s.dq hy, ok, q _ (.bl _)⟩) k
/-! texts -/
theorem opd_addS {p q : Str} (hz : p.length + q.length ≤ 100000) (k : R (.dat (.str (p ++ q)))) : OpD K B (fun x y H Q => ∃ a b, x = .str a ∧ y = .str b ∧ a.length + b.length ≤ sizeLine ∧ Q (.str (a ++ b)) H) (.dat (.str p)) (.dat (.str q)) R := opd_pure (d := .str (p ++ q)) (fun F H vx vy Q _ hx hy r => by
  cases (show Dq K F vx (.str p) from hx)
  cases (show Dq K F vy (.str q) from hy)
  exact ⟨p, q, rfl, rfl, sz_of hz, r _ (.str _)⟩) k
end
section
variable {K : PySem.W.Frag} {B : Base} {b : Nat} {d : PyData} {ds es : List PyData} {R : Dv → Nat → Prop} {δ : Env} {te ta tb : TE}
theorem cd_pure {r : List V → Hp → VK → Prop} {xs : List Dv} (h : ∀ F H vs (Q : VK), (∃ b, Sr K B b F H) → DfAll K B F vs xs → (∀ z, Dq K F z d → Q z H) → r vs H Q) (k : R (.dat d) b) : CallD K B r xs b R := fun F H s vs hs Q q =>
  h F H vs Q ⟨b, s⟩ hs fun z hz => q z (.dat d) b F H k s (Go.refl F H) hz (Nw.no rfl)
theorem df1 {F : Hp} {vs : List V} {e : Dv} (h : DfAll K B F vs [e]) : ∃ v, vs = [v] ∧ Df K B F v e := by
  obtain ⟨v, r, rfl, h1, h2⟩ := h.cases
  rw [h2.nil_of]
  exact ⟨v, rfl, h1⟩
theorem df2 {F : Hp} {vs : List V} {e e' : Dv} (h : DfAll K B F vs [e, e']) : ∃ v v', vs = [v, v'] ∧ Df K B F v e ∧ Df K B F v' e' := by
  obtain ⟨v, r, rfl, h1, h2⟩ := h.cases
  obtain ⟨v', rfl, h3⟩ := df1 h2
  exact ⟨v, v', rfl, h1, h3⟩
abbrev rLenSeq (K : PySem.W.Frag) : List V → Hp → VK → Prop := fun xs H Q => ∃ p ys, xs = [.ref p] ∧ (SqL K H p ys ∨ SqT K H p ys) ∧ Q (.int ys.length) H
theorem cd_lenL (k : R (.dat (.int (ds.length : Int))) b) : CallD K B (rLenSeq K) [.dat (.list ds)] b R := cd_pure (d := .int (ds.length : Int)) (fun F H vs Q ⟨b, s⟩ hs q => by
  obtain ⟨v, rfl, h⟩ := df1 hs
  have h : Dq K F v (.list ds) := h
  cases h with
  | @lst p vs _ h1 h2 => exact ⟨p, vs, rfl, .inl (lk_l s.lk (.inl h1)), q _ (by rw [h2.len]; exact .int _)⟩) k
theorem cd_lenT (k : R (.dat (.int (ds.length : Int))) b) : CallD K B (rLenSeq K) [.dat (.tuple ds)] b R := cd_pure (d := .int (ds.length : Int)) (fun F H vs Q ⟨b, s⟩ hs q => by
  obtain ⟨v, rfl, h⟩ := df1 hs
  have h : Dq K F v (.tuple ds) := h
  cases h with
  | @tup p vs _ h1 h2 => exact ⟨p, vs, rfl, .inr (lk_t s.lk (.inl h1)), q _ (by rw [h2.len]; exact .int _)⟩) k
abbrev rLenStr : List V → Hp → VK → Prop := fun xs H Q => ∃ z, xs = [.str z] ∧ z.length ≤ sizeLine ∧ Q (.int z.length) H
theorem cd_lenS {z : Str} (hz : z.length ≤ 100000) (k : R (.dat (.int (z.length : Int))) b) : CallD K B rLenStr [.dat (.str z)] b R := cd_pure (d := .int (z.length : Int)) (fun F H vs Q _ hs q => by
  obtain ⟨v, rfl, h⟩ := df1 hs
  cases (show Dq K F v (.str z) from h)
  exact ⟨z, rfl, sz_of hz, q _ (.int _)⟩) k
/-- list(xs) -/
abbrev rListOf (K : PySem.W.Frag) : List V → Hp → VK → Prop := fun xs H Q => ∃ p ys, xs = [.ref p] ∧ (SqL K H p ys ∨ SqT K H p ys) ∧ ∀ l, H l = none → Q (.ref l) (upd H l (.lst ys))
theorem cd_new {r : List V → Hp → VK → Prop} {xs : List Dv} (h : ∀ F H vs (Q : VK), (∃ b, Sr K B b F H) → DfAll K B F vs xs → (∀ l ws, H l = none → DqAll K F ws ds → Q (.ref l) (upd H l (.lst ws))) → r vs H Q) (k : R (.own ds) b) : CallD K B r xs b R := fun F H s vs hs Q q =>
  h F H vs Q ⟨b, s⟩ hs fun l ws hl hw => by
    obtain ⟨s2, g2, d2, n2⟩ := s.newL hl hw
    exact q _ _ b F _ k s2 g2 d2 n2
theorem cd_listL (k : R (.own ds) b) : CallD K B (rListOf K) [.dat (.list ds)] b R := cd_new (ds := ds) (fun F H vs Q ⟨b, s⟩ hs q => by
  obtain ⟨v, rfl, h⟩ := df1 hs
  have h : Dq K F v (.list ds) := h
  cases h with
  | @lst p vs _ h1 h2 => exact ⟨p, vs, rfl, .inl (lk_l s.lk (.inl h1)), fun l hl => q l vs hl h2⟩) k
theorem cd_listT (k : R (.own ds) b) : CallD K B (rListOf K) [.dat (.tuple ds)] b R := cd_new (ds := ds) (fun F H vs Q ⟨b, s⟩ hs q => by
  obtain ⟨v, rfl, h⟩ := df1 hs
  have h : Dq K F v (.tuple ds) := h
  cases h with
  | @tup p vs _ h1 h2 => exact ⟨p, vs, rfl, .inr (lk_t s.lk (.inl h1)), fun l hl => q l vs hl h2⟩) k
/-- tuple(xs) -/
abbrev rTupOf (K : PySem.W.Frag) : List V → Hp → VK → Prop := fun xs H Q => ∃ p ys, xs = [.ref p] ∧ ((SqL K H p ys ∧ ∀ l, H l = none → Q (.ref l) (upd H l (.tup ys))) ∨ (SqT K H p ys ∧ Q (.ref p) H))
theorem cd_tupL (k : R (.dat (.tuple ds)) b) : CallD K B (rTupOf K) [.dat (.list ds)] b R := fun F H s vs hs Q q => by
  obtain ⟨v, rfl, h⟩ := df1 hs
  have h : Dq K F v (.list ds) := h
  cases h with
  | @lst p vs _ h1 h2 =>
    refine ⟨p, vs, rfl, .inl ⟨lk_l s.lk (.inl h1), fun l hl => ?_⟩⟩
    obtain ⟨s2, g2, d2⟩ := s.newT hl h2
    exact q _ _ b _ _ k s2 g2 d2 (Nw.no rfl)
/-- all(bs) -/
theorem bools_of {F : Hp} : ∀ {bs : List Bool} {vs : List V}, DqAll K F vs (bs.map PyData.bool) → vs = bs.map V.bl
  | [], _, h => by
    cases h
    rfl
  | c :: bs, _, h => by
    cases h with
    | cons h1 h2 =>
      cases h1
      rw [bools_of h2] <;> rfl
theorem cd_all {bs : List Bool} (k : R (.dat (.bool (bs.all id))) b) : CallD K B (rAll K) [.dat (.list (bs.map .bool))] b R := cd_pure (d := .bool (bs.all id)) (fun F H vs Q ⟨b, s⟩ hs q => by
  obtain ⟨v, rfl, h⟩ := df1 hs
  have h : Dq K F v (.list (bs.map .bool)) := h
  cases h with
  | @lst p vs _ h1 h2 => exact ⟨p, bs, rfl, bools_of h2 ▸ lk_l s.lk (.inl h1), q _ (.bl _)⟩) k
/-- isinstance of data -/
theorem cd_isi {T : String} {P : Hp → V → Prop} (hP : ∀ F v, P F v → v = .ty T) (hT : tysD.all (fun t => decide (kitB t T = some (decide (t = T)))) = true) (k : R (.dat (.bool (decide (tyD d = T)))) b) : CallD K B (rIsi K) [.dat d, .mp P] b R := cd_pure (d := .bool (decide (tyD d = T))) (fun F H vs Q ⟨b, s⟩ hs q => by
  obtain ⟨v, w, rfl, h1, h2⟩ := df2 hs
  have e := hP F w ((show ∀ F', Ex F F' → P F' w from h2) F (Ex.refl F))
  subst e
  exact ⟨v, .ty T, .type (tyD d), .type T, _, rfl, .ty T, (s.dq h1).ty, kit_ty (of_decide_eq_true (List.all_eq_true.mp hT _ (tyD_mem d))), q _ (.bl _)⟩) k
/-- sorted of data -/
theorem cd_sortD (al : PySem.W.AllAlike ds) (so : PySem.W.Sortable ds) (dp : ∀ d ∈ ds, d.depth ≤ 20) (k : R (.own (sortD ds)) b) : CallD K B (rSortD K) [.dat (.list ds)] b R := fun F H s vs hs Q q => by
  obtain ⟨v, rfl, h⟩ := df1 hs
  have h : Dq K F v (.list ds) := h
  cases h with
  | @lst p vs _ h1 h2 =>
    exact ⟨p, vs, ds, rfl, lk_l s.lk (.inl h1), s.dqs h2, al, so, dp, fun l ws hl hw => by
      obtain ⟨s2, g2, d2, n2⟩ := s.newL hl (hw F h2)
      exact q _ _ b F _ k s2 g2 d2 n2⟩
end
end Dl
set_option Elab.async false
set_option linter.all false
set_option maxRecDepth 100000
set_option maxHeartbeats 4000000
/-! the data level: walks over dicts, locked meanwhile -/
namespace Dl
open PySem PySem.Spec PyProof.Rows L2 Evl Gd LamX
def Base.lock (B : Base) (d : Addr) (o : Obj) : Base := { B with lk := (d, o) :: B.lk, RX := fun _ _ => False }
section
variable {K : PySem.W.Frag} {B : Base} {F F' H H' : Hp} {v : V} {e : Dv} {δ : Env} {b : Nat} {σ : L2.St} {ds : List PyData} {ta tb te : TE} {t u : TT} {R : Dv → Nat → Prop} {S : Bool → Nat → Prop} {E : Ed} {D : Ends} {s1 s2 : TS} {g : TG} {d : Addr} {o : Obj}
theorem DictO.code {w : HO} {c : Addr} {q : Str} (hw : DictO w) : w ≠ CodeO c q := fun z => by
  unfold CodeO at z
  subst z
  exact hw
theorem Sr.notLk (s : Sr K B b F H) {w : HO} (hw : DictO w) (hH : H d = some w) : d ∉ B.lk.map (·.1) := fun l => by
  obtain ⟨p, hp, rfl⟩ := List.mem_map.mp l
  obtain ⟨u, h2, h3, h4⟩ := s.lkd p hp
  rw [hH] at h3
  cases h3
  exact hw
theorem Sr.cold (s : Sr K B b F H) {w : HO} (hF : F d = some w) : ¬ B.hot d := fun z => by
  rcases z with ⟨x, ns, z⟩ | z
  · rw [(s.pen _ x ns z).2.1] at hF
    cases hF
  · obtain ⟨q, hq, e⟩ := List.mem_map.mp z
    rw [← e, (s.tb0 q hq).2] at hF
    cases hF
theorem Sr.lock (s : Sr K B b F H) {w : HO} (hw : DictO w) (hF : F d = some w) (hH : H d = some w) : Sr K (B.lock d o) b F (L2.upd H d (.frz o w)) where
  le := fun a u h => by
    by_cases e : a = d
    · subst e
      rw [hF] at h
      cases h
      exact .inr ⟨hw, o, upd_same⟩
    · rw [upd_ne e]
      exact s.le a u h
  nfz := s.nfz
  ntb := s.ntb
  ex0 := s.ex0
  fr := fun a o' h n l => by
    have l' : a ≠ d ∧ a ∉ B.lk.map (·.1) := by
      simpa [Base.lock] using l
    rw [upd_ne l'.1]
    exact s.fr a o' h n l'.2
  dom := fun a h => by
    by_cases e : a = d
    · subst e
      rw [upd_same]
      exact fun z => nomatch z
    · rw [upd_ne e]
      exact s.dom a h
  frN := s.frN
  free := fun f a u h l => by
    have l' : a ≠ d ∧ a ∉ B.lk.map (·.1) := by
      simpa [Base.lock] using l
    rw [upd_ne l'.1]
    exact s.free f a u h l'.2
  lkd := fun p hp => by
    rcases List.mem_cons.mp hp with rfl | hp
    · exact ⟨w, hw, upd_same, hF⟩
    · obtain ⟨u, h2, h3, h4⟩ := s.lkd p hp
      have e : p.1 ≠ d := fun e => s.notLk hw hH (e ▸ List.mem_map.mpr ⟨p, hp, rfl⟩)
      exact ⟨u, h2, by rw [upd_ne e]; exact h3, h4⟩
  tabs := fun p hp => by
    obtain ⟨ps, t1, t2, t3⟩ := s.tabs p hp
    have e : p.1 ≠ d := fun e => by
      have := (s.tb0 p hp).2
      rw [e, hF] at this
      cases this
    refine ⟨ps, by rw [upd_ne e]; exact t1, t2, fun pos cv hc => ?_⟩
    obtain ⟨c, c1, c2⟩ := t3 pos cv hc
    have e2 : c ≠ d := fun e => by
      rw [e, hH] at c2
      exact hw.code (Option.some.inj c2)
    exact ⟨c, c1, by rw [upd_ne e2]; exact c2⟩
  tb0 := s.tb0
  pen := fun p a ns h => by
    obtain ⟨h1, h2, h3, h4, i, d', h5, h6⟩ := s.pen p a ns h
    have e : p ≠ d := fun e => by
      rw [e, hF] at h2
      cases h2
    exact ⟨h1, h2, h3, h4, i, d', by rw [upd_ne e]; exact h5, h6⟩
theorem Sr.unlock (s : Sr K (B.lock d o) b F H) {w : HO} (hw : DictO w) (hF : F d = some w) (h0 : ∀ o', B.H0 d = some o' → o' = w) (hl : d ∉ B.lk.map (·.1)) : Sr K B b F (L2.upd H d w) where
  le := fun a u h => by
    by_cases e : a = d
    · subst e
      rw [hF] at h
      cases h
      exact .inl upd_same
    · rw [upd_ne e]
      exact s.le a u h
  nfz := s.nfz
  ntb := s.ntb
  ex0 := s.ex0
  fr := fun a o' h n l => by
    by_cases e : a = d
    · subst e
      rw [upd_same, h0 o' h]
    · rw [upd_ne e]
      exact s.fr a o' h n (by simpa [Base.lock, e] using l)
  dom := fun a h => by
    by_cases e : a = d
    · subst e
      rw [upd_same]
      exact fun z => nomatch z
    · rw [upd_ne e]
      exact s.dom a h
  frN := s.frN
  free := fun f a u h l => by
    by_cases e : a = d
    · subst e
      rw [hF] at h
      cases h
      exact upd_same
    · rw [upd_ne e]
      exact s.free f a u h (by simpa [Base.lock, e] using l)
  lkd := fun p hp => by
    obtain ⟨u, h2, h3, h4⟩ := s.lkd p (List.mem_cons_of_mem _ hp)
    have e : p.1 ≠ d := fun e => hl (e ▸ List.mem_map.mpr ⟨p, hp, rfl⟩)
    exact ⟨u, h2, by rw [upd_ne e]; exact h3, h4⟩
  tabs := fun p hp => by
    obtain ⟨ps, t1, t2, t3⟩ := s.tabs p hp
    have e : p.1 ≠ d := fun e => by
      have := (s.tb0 p hp).2
      rw [e, hF] at this
      cases this
    refine ⟨ps, by rw [upd_ne e]; exact t1, t2, fun pos cv hc => ?_⟩
    obtain ⟨c, c1, c2⟩ := t3 pos cv hc
    have e2 : c ≠ d := fun e => by
      obtain ⟨u, _, h3, _⟩ := s.lkd (d, o) List.mem_cons_self
      rw [e] at c2
      have h3' : H d = some (.frz o u) := h3
      rw [h3'] at c2
      unfold CodeO at c2
      cases c2
    exact ⟨c, c1, by rw [upd_ne e2]; exact c2⟩
  tb0 := s.tb0
  pen := fun p a ns h => by
    obtain ⟨h1, h2, h3, h4, i, d', h5, h6⟩ := s.pen p a ns h
    have e : p ≠ d := fun e => by
      rw [e, hF] at h2
      cases h2
    exact ⟨h1, h2, h3, h4, i, d', by rw [upd_ne e]; exact h5, h6⟩
theorem Sr.h0d (s : Sr K B b F H) {w : HO} (hw : DictO w) (hF : F d = some w) (hH : H d = some w) : ∀ o', B.H0 d = some o' → o' = w := fun o' h => by
  have := s.fr d o' h (s.cold hF) (s.notLk hw hH)
  rw [hH] at this
  exact (Option.some.inj this).symm
/-- what slots hold, in another heap that has what they own -/
theorem Dr.heap (h : Dr K B F H v e) (k : ∀ p o, v = .ref p → e.isOwn = true → F p = none → H p = some o → H' p = some o) : Dr K B F H' v e := by
  cases e with
  | own ds =>
    obtain ⟨p, vs, e1, e2, e3, e4, e5⟩ := h
    exact ⟨p, vs, e1, e2, e3, k p _ e1 rfl e3 e4, e5⟩
  | ownK ps =>
    obtain ⟨p, vs, e1, e2, e3, e4, e5⟩ := h
    exact ⟨p, vs, e1, e2, e3, k p _ e1 rfl e3 e4, e5⟩
  | ownX K' P ps =>
    obtain ⟨p, vs, e1, e2, e3, e4, e5⟩ := h
    exact ⟨p, vs, e1, e2, e3, k p _ e1 rfl e3 e4, e5⟩
  | dat d => exact h
  | mp P => exact h
  | pen => exact h
theorem Dr.base {B' : Base} (h : Dr K B F H v e) (e0 : B'.H0 = B.H0) (ep : B'.pn = B.pn) : Dr K B' F H v e := by
  cases e with
  | own ds =>
    obtain ⟨p, vs, e1, e2, e3⟩ := h
    exact ⟨p, vs, e1, e0 ▸ e2, e3⟩
  | ownK ps =>
    obtain ⟨p, vs, e1, e2, e3⟩ := h
    exact ⟨p, vs, e1, e0 ▸ e2, e3⟩
  | ownX K' P ps =>
    obtain ⟨p, vs, e1, e2, e3⟩ := h
    exact ⟨p, vs, e1, e0 ▸ e2, e3⟩
  | dat d => exact h
  | mp P => exact h
  | pen =>
    obtain ⟨p, a, ns, h1, h2⟩ := h
    exact ⟨p, a, ns, ep ▸ h1, h2⟩
theorem Dr.lock {w : HO} (hF : F d = some w) (h : Dr K B F H v e) : Dr K (B.lock d o) F (L2.upd H d (.frz o w)) v e :=
  Dr.base (Dr.heap h fun p o' _ _ f q => by
    have : p ≠ d := fun z => by rw [z, hF] at f; cases f
    rw [upd_ne this]
    exact q) rfl rfl
theorem Dr.unlock {w : HO} (hF : F d = some w) (h : Dr K (B.lock d o) F H v e) : Dr K B F (L2.upd H d w) v e :=
  Dr.base (B := B.lock d o) (Dr.heap h fun p o' _ _ f q => by
    have : p ≠ d := fun z => by rw [z, hF] at f; cases f
    rw [upd_ne this]
    exact q) rfl rfl
theorem Sd.lock (s : Sd K B δ b σ F H) {w : HO} (hw : DictO w) (hF : F d = some w) (hH : H d = some w) : Sd K (B.lock d o) δ b σ F (L2.upd H d (.frz o w)) :=
  ⟨s.toSr.lock hw hF hH, s.len, fun i e h => by
    obtain ⟨v, h1, h2⟩ := s.at_ i e h
    exact ⟨v, h1, h2.lock hF⟩, s.apart⟩
theorem Sd.unlock (s : Sd K (B.lock d o) δ b σ F H) {w : HO} (hw : DictO w) (hF : F d = some w) (h0 : ∀ o', B.H0 d = some o' → o' = w) (hl : d ∉ B.lk.map (·.1)) : Sd K B δ b σ F (L2.upd H d w) :=
  ⟨s.toSr.unlock hw hF h0 hl, s.len, fun i e h => by
    obtain ⟨v, h1, h2⟩ := s.at_ i e h
    exact ⟨v, h1, h2.unlock hF⟩, s.apart⟩
theorem Sr.frzd (s : Sr K (B.lock d o) b F H) {w : HO} (hF : F d = some w) : H d = some (.frz o w) := by
  obtain ⟨u, _, h3, h4⟩ := s.lkd (d, o) List.mem_cons_self
  have h4' : F d = some u := h4
  rw [hF] at h4'
  cases h4'
  exact h3
theorem DictO.mut {w : HO} (h : DictO w) : Mut (some w) := by
  cases w <;> first | exact True.intro | exact h.elim
/-- a statement under lock -/
theorem lock_st {t : TS} {w : HO} (s : Sd K B δ b σ F H) (hw : DictO w) (hF : F d = some w) (hH : H d = some w) (dd : EdTo K B F E D)
    (k : ∀ o D', EdTo K (B.lock d o) F E D' → t D' σ (L2.upd H d (.frz o w))) : tLock t D σ H := by
  have h0 := s.toSr.h0d hw hF hH
  have hl := s.toSr.notLk hw hH
  refine ⟨d, w, hH, hw.mut, fun o => k o _ ⟨fun δ b σ F' H' e s' x => ?_, fun v e' b F' H' e s' x dr => ?_, fun δ b σ F' H' e s' x => ?_, fun δ b σ F' H' e s' x => ?_⟩⟩
  · exact ⟨s'.toSr.frzd (x _ _ hF), dd.nx δ b σ F' _ e (s'.unlock hw (x _ _ hF) h0 hl) x⟩
  · exact ⟨s'.frzd (x _ _ hF), dd.rt v e' b F' _ e (s'.unlock hw (x _ _ hF) h0 hl) x (dr.unlock (x _ _ hF))⟩
  · exact ⟨s'.toSr.frzd (x _ _ hF), dd.bk δ b σ F' _ e (s'.unlock hw (x _ _ hF) h0 hl) x⟩
  · exact ⟨s'.toSr.frzd (x _ _ hF), dd.ct δ b σ F' _ e (s'.unlock hw (x _ _ hF) h0 hl) x⟩
/-- an expression under lock -/
theorem lock_e {te : TE} {w : HO} {Q : VK} (s : Sd K B δ b σ F H) (hw : DictO w) (hF : F d = some w) (hH : H d = some w)
    (k : ∀ v e b' F' H', R e b' → Sr K B b' F' H' → Go B F H F' H' → Dr K B F' H' v e → Nw H v e → Q v H')
    (h : ∀ o (Q' : VK), (∀ v e b' F' H', R e b' → Sr K (B.lock d o) b' F' H' → Go (B.lock d o) F (L2.upd H d (.frz o w)) F' H' → Dr K (B.lock d o) F' H' v e → Nw (L2.upd H d (.frz o w)) v e → Q' v H') → te σ (L2.upd H d (.frz o w)) Q') : tLockE te σ H Q := by
  have h0 := s.toSr.h0d hw hF hH
  have hl := s.toSr.notLk hw hH
  refine ⟨d, w, hH, hw.mut, fun o => h o _ fun v e b' F' H' r s' g dr nw => ?_⟩
  have hF' := g.ex _ _ hF
  refine ⟨s'.frzd hF', k v e b' F' _ r (s'.unlock hw hF' h0 hl) ⟨g.ex, fun a o' q n => ?_, fun a q f n => g.nw a ?_ f n⟩ (dr.unlock hF') fun z => ?_⟩
  · by_cases e : a = d
    · subst e
      rw [hH] at q
      cases q
      exact upd_same
    · rw [upd_ne e]
      exact g.kp a o' (by rw [upd_ne e]; exact q) n
  · have e : a ≠ d := fun z => by rw [z, hF] at f; cases f
    rw [upd_ne e]
    exact q
  · obtain ⟨p, e1, e2⟩ := nw z
    refine ⟨p, e1, ?_⟩
    have e : p ≠ d := fun z => by rw [z, upd_same] at e2; cases e2
    rwa [upd_ne e] at e2
/-! a dict's keys and items -/
theorem key_dq (k : Key) : Dq K F (kV k) (keyD k) := by
  cases k with
  | inl i => exact .int i
  | inr x => exact .str x
theorem get_map {α β : Type} {f : α → β} {l : List α} {i : Nat} {y : β} (h : (l.map f)[i]? = some y) : ∃ x, l[i]? = some x ∧ f x = y := by
  rw [List.getElem?_map] at h
  cases q : l[i]? with
  | none =>
    rw [q] at h
    cases h
  | some x =>
    rw [q] at h
    exact ⟨x, rfl, Option.some.inj h⟩
theorem WalkD.keys {kvs : List (Key × V)} (h : F d = some (.dK kvs)) : WalkD K (B.lock d o) F (Itk d o kvs) (kvs.map fun p => keyD p.1) := by
  have e : (kvs.map fun p => keyD p.1).length = kvs.length := List.length_map ..
  refine ⟨_, _, e ▸ walk_keys, fun b2 F2 H2 x s => s.frzd (x _ _ h), fun i v b2 F2 H2 H3 d' x s y hi => ?_⟩
  obtain ⟨rfl, k, w, hk, rfl⟩ := y
  obtain ⟨p, hp, rfl⟩ := get_map hi
  rw [hk] at hp
  cases hp
  exact ⟨F2, s, Go.refl _ _, key_dq k⟩
theorem WalkD.items {kvs : List (Key × V)} {ps : List (PyData × PyData)} (h : F d = some (.dK kvs)) (hk : ps.map (·.1) = kvs.map fun p => keyD p.1) (hv : DqAll K F (kvs.map (·.2)) (ps.map (·.2))) : WalkD K (B.lock d o) F (Iti d o kvs) (ps.map fun p => .tuple [p.1, p.2]) := by
  have e : (ps.map fun p => PyData.tuple [p.1, p.2]).length = kvs.length := by
    have := congrArg List.length hk
    rw [List.length_map, List.length_map] at this
    rw [List.length_map, this]
  refine ⟨_, _, e ▸ walk_items, fun b2 F2 H2 x s => s.frzd (x _ _ h), fun i v b2 F2 H2 H3 d' x s y hi => ?_⟩
  obtain ⟨T, y1, y2, rfl, hT, rfl, e1, e2⟩ := y
  obtain ⟨p, hp, rfl⟩ := get_map hi
  replace e1 : kvs[i]?.map (fun kv => kV kv.1) = some y1 := e1
  replace e2 : kvs[i]?.map Prod.snd = some y2 := e2
  cases q : kvs[i]? with
  | none =>
    rw [q] at e1
    cases e1
  | some kv =>
    rw [q] at e1 e2
    cases e1
    cases e2
    have k1 : keyD kv.1 = p.1 := by
      have a1 : (ps.map (·.1))[i]? = some p.1 := by rw [List.getElem?_map, hp] <;> rfl
      have a2 : (kvs.map fun p => keyD p.1)[i]? = some (keyD kv.1) := by rw [List.getElem?_map, q] <;> rfl
      rw [hk, a2] at a1
      exact Option.some.inj a1
    have a3 : (ps.map (·.2))[i]? = some p.2 := by rw [List.getElem?_map, hp] <;> rfl
    obtain ⟨w, hw, hd⟩ := hv.get i p.2 a3
    have a4 : (kvs.map (·.2))[i]? = some kv.2 := by rw [List.getElem?_map, q] <;> rfl
    rw [a4] at hw
    cases hw
    obtain ⟨s3, g3, d3⟩ := s.newT hT (ds := [p.1, p.2]) (.cons (k1 ▸ key_dq kv.1) (.cons (hd.up x) .nil))
    exact ⟨_, s3, g3, d3⟩
/-- td tells a dict of these data, locked or not -/
def DkT (K : PySem.W.Frag) (B : Base) (td : TE) (δ : Env) (b : Nat) (ps : List (PyData × PyData)) : Prop := ∀ σ F H, Sd K B δ b σ F H → ∃ d kvs, F d = some (.dK kvs) ∧ H d = some (.dK kvs) ∧ ps.map (·.1) = kvs.map (fun p => keyD p.1) ∧ DqAll K F (kvs.map (·.2)) (ps.map (·.2)) ∧
  ∀ o Q, Q (.ref d) (L2.upd H d (.frz o (.dK kvs))) → td σ (L2.upd H d (.frz o (.dK kvs))) Q
theorem Sr.unl (s : Sr K B b F H) (f : B.free = true) (l : B.lk = []) {a : Addr} {w : HO} (h : F a = some w) : H a = some w := s.free f a w h (by rw [l]; simp)
theorem dk_var {ps : List (PyData × PyData)} {i : Nat} (h : δ[i]? = some (some (.dat (.dict ps)))) (f : B.free = true) (l : B.lk = []) : DkT K B (tVar i) δ b ps := fun σ F H s => by
  obtain ⟨v, h1, h2⟩ := s.get h
  have h2 : Dq K F v (.dict ps) := h2
  cases h2 with
  | @dct a kvs _ hr hk hv =>
    rcases hr with hr | ⟨o, hr⟩
    · exact ⟨a, kvs, hr, s.toSr.unl f l hr, hk, hv, fun o Q q => ⟨_, h1, q⟩⟩
    · exact (xt_no (s.nfz a o _ hr) (fun _ z => nomatch z)).elim
/-- for k in d -/
theorem mz_forK {td : TE} {ps : List (PyData × PyData)} (hd : DkT K B td δ b ps) (IV : Nat → Env → Nat → Prop) (h0 : IV 0 δ b)
      (hs : ∀ d o i p δ' b', ps[i]? = some p → IV i δ' b' → Mg K (B.lock d o) g (.dat p.1) δ' b' fun δ2 => Mz K (B.lock d o) s1 δ2 b' { E with nx := IV (i + 1), ct := IV (i + 1), bk := E.nx })
      (he : ∀ δ' b', IV ps.length δ' b' → E.nx δ' b') : Mz K B (tLock (tFor (iKeys td) g s1)) δ b E := fun σ F H s D dd => by
  obtain ⟨d, kvs, hF, hH, hk, hv, ht⟩ := hd σ F H s
  refine lock_st (w := .dK kvs) s True.intro hF hH dd fun o D' dd' => ht o _ ⟨d, o, rfl, .inl ⟨kvs, upd_same, ?_⟩⟩
  have l : ps.length = (kvs.map fun p => keyD p.1).length := by rw [← hk, List.length_map]
  exact for_st (s.lock (w := .dK kvs) True.intro hF hH) (.keys hF) IV h0 (fun i x δ' b' hi q => by
    rw [← hk] at hi
    obtain ⟨p, hp, rfl⟩ := get_map hi
    exact hs d o i p δ' b' hp q) (fun δ' b' q => he δ' b' (l ▸ q)) dd'
/-- for k, .. in d.items() -/
theorem mz_forI {td : TE} {ps : List (PyData × PyData)} (hd : DkT K B td δ b ps) (IV : Nat → Env → Nat → Prop) (h0 : IV 0 δ b)
      (hs : ∀ d o i p δ' b', ps[i]? = some p → IV i δ' b' → Mg K (B.lock d o) g (.dat (.tuple [p.1, p.2])) δ' b' fun δ2 => Mz K (B.lock d o) s1 δ2 b' { E with nx := IV (i + 1), ct := IV (i + 1), bk := E.nx })
      (he : ∀ δ' b', IV ps.length δ' b' → E.nx δ' b') : Mz K B (tLock (tFor (iItems td) g s1)) δ b E := fun σ F H s D dd => by
  obtain ⟨d, kvs, hF, hH, hk, hv, ht⟩ := hd σ F H s
  refine lock_st (w := .dK kvs) s True.intro hF hH dd fun o D' dd' => ht o _ ⟨d, o, kvs, rfl, upd_same, ?_⟩
  exact for_st (s.lock (w := .dK kvs) True.intro hF hH) (.items hF hk hv) IV h0 (fun i x δ' b' hi q => by
    obtain ⟨p, hp, rfl⟩ := get_map hi
    exact hs d o i p δ' b' hp q) (fun δ' b' q => he δ' b' (by rwa [List.length_map] at q)) dd'
/-- [e for k in d], by the keys' values -/
theorem me_lcK {td : TE} {ps : List (PyData × PyData)} {vs : List Nat} {j : Nat} (hd : DkT K B td δ b ps) (hz : ps.length ≤ 100000) (f : PyData → PyData)
      (hs : ∀ d o p, p ∈ ps → Me K (B.lock d o) te ((wipeE δ vs).set j (some (.dat p.1))) b fun y b3 => y.fz = .dat (f p.1) ∧ b3 = b) (he : R (.own (ps.map fun p => f p.1)) b) (hj : j ∈ vs := by decide) : Me K B (tLockE (tLc (iKeys td) (gName j) tYes te vs)) δ b R := fun σ F H s Q k => by
  obtain ⟨d, kvs, hF, hH, hk, hv, ht⟩ := hd σ F H s
  refine lock_e (w := .dK kvs) s True.intro hF hH k fun o Q' k' => ht o _ ⟨d, o, rfl, .inl ⟨kvs, upd_same, ?_⟩⟩
  have l : (kvs.map fun p => keyD p.1).length = ps.length := by rw [← hk, List.length_map]
  refine lc_st (R := R) (s.lock (w := .dK kvs) True.intro hF hH) (.keys hF) (by rw [l]; exact hz) (fun i acc b' => acc = (ps.take i).map (fun p => f p.1) ∧ b' = b) ⟨by simp, rfl⟩ (fun i x acc b' hi ha ⟨q1, q2⟩ σ0 F1 H1 sw v hx Q2 kk => ?_) (fun acc b' ⟨q1, q2⟩ => ?_) k'
  · rw [← hk] at hi
    obtain ⟨p, hp, rfl⟩ := get_map hi
    subst q1 q2
    refine kk _ _ (sw.set j (e := .dat p.1) hx (fun o => by cases o)) (by rw [wipe_in hj, wipe_idem _ _ _ fun _ h => h]) (mt_yes ⟨fun _ => (hs d o p (List.mem_of_getElem? hp)).mono fun y b3 ⟨z1, z2⟩ => ⟨f p.1, z1, ?_, z2⟩, fun z => nomatch z⟩)
    rw [List.take_add_one, hp, List.map_append] <;> rfl
  · subst q1 q2
    rw [l, List.take_length]
    exact he
/-- (x, (..)): a name, then a target -/
theorem mg_pair {i : Nat} {g2 : TG} {x y : PyData} {P : Env → Prop} (h : Mg K B g2 (.dat y) (δ.set i (some (.dat x))) b P) : Mg K B (gTup K 2 (gCons (gName i) (gCons g2 gNil))) (.dat (.tuple [x, y])) δ b P := fun σ F H s v h' _ Q k => by
  have h' : Dq K F v (.tuple [x, y]) := h'
  cases h' with
  | @tup a vs _ hs hd =>
    cases hd with
    | cons h1 h2 =>
      cases h2 with
      | cons h3 h4 =>
        cases h4
        exact ⟨a, _, rfl, lk_t s.lk (.inl hs), rfl, _, _, rfl, _, _, rfl, h _ F H (s.set i (e := .dat x) h1 (fun o => by cases o)) _ h3 (fun o => by cases o) _ fun δ' σ' r s' => ⟨rfl, k δ' σ' r s'⟩⟩
/-- what a slot owns is frozen -/
theorem mz_fz {i : Nat} (hi : δ[i]? = some (some e)) (h : Mz K B s1 (δ.set i (some e.fz)) b E) : Mz K B s1 δ b E := fun σ F H s D dd => by
  obtain ⟨F', x, s'⟩ := s.fzSlot hi
  exact h σ F' H s' D (dd.up x)
end
end Dl
set_option Elab.async false
set_option linter.all false
set_option maxRecDepth 100000
set_option maxHeartbeats 4000000
/-! the tables of a schema: texts alone -/
namespace K01
open PySem PySem.Spec PyProof.Rows L2 Gd Evl Dl
abbrev Tab := Str × List (Str × Str) × List Str
def colD (c : Str × Str) : PyData := .tuple [.str c.1, .str c.2]
def tabD (t : List (Str × Str) × List Str) : PyData := .tuple [.tuple (t.1.map colD), .tuple (t.2.map .str)]
def planP (t : Tab) : PyData × PyData := (.str t.1, tabD t.2)
structure TabOk (t : Tab) : Prop where
  nm : isNameS t.1 = true
  c1 : 1 ≤ t.2.1.length
  c3 : t.2.1.length ≤ 3
  f2 : t.2.2.length ≤ 2
  cn : ∀ c ∈ t.2.1, isNameS c.1 = true ∧ isNameS c.2 = true
  fn : ∀ f ∈ t.2.2, isNameS f = true
  nd : (t.2.1.map (·.1) ++ t.2.2).Nodup
structure PlanOk (p : List Tab) : Prop where
  n1 : 1 ≤ p.length
  n4 : p.length ≤ 4
  tb : ∀ t ∈ p, TabOk t
  nd : (p.map (·.1)).Nodup
theorem map_of {α : Type} {P : PyData → Bool} {f : α → PyData} {Q : α → Prop} (h : ∀ d, P d = true → ∃ a, d = f a ∧ Q a) : ∀ ds : List PyData, ds.all P = true → ∃ as : List α, ds = as.map f ∧ ∀ a ∈ as, Q a
  | [], _ => ⟨[], rfl, fun _ z => by cases z⟩
  | d :: ds, e => by
    rw [List.all_cons, Bool.and_eq_true] at e
    obtain ⟨a, h1, h2⟩ := h d e.1
    obtain ⟨as, h3, h4⟩ := map_of h ds e.2
    exact ⟨a :: as, by rw [h1, h3] <;> rfl, fun x hx => by
      rcases List.mem_cons.mp hx with rfl | hx
      · exact h2
      · exact h4 x hx⟩
theorem tab_of {x : PyData} {t : PyData} (h1 : isNameD x = true) (h2 : isTableD t = true) : ∃ a : Tab, (x, t) = planP a ∧ TabOk a := by
  obtain ⟨n, rfl, hn⟩ := isName_shape h1
  obtain ⟨cs, fs, rfl⟩ := table_shape h2
  unfold isTableD at h2
  simp only [Bool.and_eq_true, decide_eq_true_eq] at h2
  obtain ⟨⟨⟨⟨e1, e2⟩, e3⟩, e4, e5⟩, e6⟩ := h2
  obtain ⟨cs', rfl, hc⟩ := map_of (f := colD) (Q := fun c => isNameS c.1 = true ∧ isNameS c.2 = true) (fun d hd => by
    obtain ⟨a, b, rfl, k1, k2⟩ := isCol_shape hd
    exact ⟨(a, b), rfl, k1, k2⟩) cs e4
  obtain ⟨fs', rfl, hf⟩ := map_of (f := PyData.str) (Q := fun x => isNameS x = true) (fun d hd => isName_shape hd) fs e5
  refine ⟨(n, cs', fs'), rfl, hn, by simpa using e1, by simpa using e2, by simpa using e3, hc, hf, ?_⟩
  have q1 : (cs'.map colD).map colName = cs'.map (·.1) := by
    rw [List.map_map] <;> rfl
  have q2 : (fs'.map PyData.str).map txt = fs' := by
    rw [List.map_map]
    exact List.map_id' fs'
  rwa [q1, q2] at e6
theorem plan_of {ps : List (PyData × PyData)} (h : isPlanD (.dict ps) = true) (nd : (ps.map (·.1)).Nodup) : ∃ p : List Tab, ps = p.map planP ∧ PlanOk p := by
  unfold isPlanD at h
  simp only [Bool.and_eq_true, decide_eq_true_eq] at h
  obtain ⟨⟨e1, e2⟩, e3⟩ := h
  have : ∃ p : List Tab, ps = p.map planP ∧ ∀ t ∈ p, TabOk t := by
    clear e1 e2 nd
    induction ps with
    | nil => exact ⟨[], rfl, fun _ z => by cases z⟩
    | cons x r ih =>
      rw [List.all_cons, Bool.and_eq_true, Bool.and_eq_true] at e3
      obtain ⟨a, h1, h2⟩ := tab_of e3.1.1 e3.1.2
      obtain ⟨as, h3, h4⟩ := ih e3.2
      exact ⟨a :: as, by rw [h3, List.map_cons, ← h1], fun y hy => by
        rcases List.mem_cons.mp hy with rfl | hy
        · exact h2
        · exact h4 y hy⟩
  obtain ⟨p, rfl, hp⟩ := this
  refine ⟨p, rfl, by simpa using e1, by simpa using e2, hp, ?_⟩
  have q : (p.map planP).map (·.1) = (p.map (·.1)).map PyData.str := by rw [List.map_map, List.map_map] <;> rfl
  rw [q] at nd
  exact List.Pairwise.of_map PyData.str (fun a b h z => h (congrArg PyData.str z)) nd
theorem name_ok {x : Str} (h : isNameS x = true) : isNameD (.str x) = true := h
theorem tab_is {t : Tab} (h : TabOk t) : isNameD (.str t.1) = true ∧ isTableD (tabD t.2) = true := by
  refine ⟨h.nm, ?_⟩
  have q1 : (t.2.1.map colD).map colName = t.2.1.map (·.1) := by rw [List.map_map] <;> rfl
  have q2 : (t.2.2.map PyData.str).map txt = t.2.2 := by
    rw [List.map_map]
    exact List.map_id' _
  show (decide (1 ≤ (t.2.1.map colD).length) && decide ((t.2.1.map colD).length ≤ 3) && decide ((t.2.2.map PyData.str).length ≤ 2) && ((t.2.1.map colD).all isColD && (t.2.2.map PyData.str).all isNameD) && decide ((t.2.1.map colD).map colName ++ (t.2.2.map PyData.str).map txt).Nodup) = true
  rw [q1, q2]
  simp only [Bool.and_eq_true, decide_eq_true_eq, List.length_map, List.all_map, List.all_eq_true]
  exact ⟨⟨⟨⟨h.c1, h.c3⟩, h.f2⟩, fun c hc => by
    obtain ⟨a, b⟩ := h.cn c hc
    show (isNameS c.1 && isNameS c.2) = true
    rw [a, b] <;> rfl, h.fn⟩, h.nd⟩
theorem plan_is {p : List Tab} (h : PlanOk p) : isPlanD (.dict (p.map planP)) = true := by
  unfold isPlanD
  simp only [Bool.and_eq_true, decide_eq_true_eq, List.length_map, List.all_map, List.all_eq_true]
  exact ⟨⟨h.n1, h.n4⟩, fun t ht => by
    obtain ⟨a, b⟩ := tab_is (h.tb t ht)
    show (isNameD (.str t.1) && isTableD (tabD t.2)) = true
    rw [a, b] <;> rfl⟩
/-! tuples of texts, sorted -/
def tT (xs : List Str) : PyData := .tuple (xs.map .str)
def sortT (zss : List (List Str)) : List (List Str) := zss.mergeSort (PySem.W.dataLe false tT)
theorem sortD_tT (zss : List (List Str)) : sortD (zss.map tT) = (sortT zss).map tT := by
  unfold sortD sortT
  rw [List.map_mergeSort (r := PySem.W.dataLe false tT) (s := PySem.W.dataLe false fun d => d) (f := tT)]
  intro a _ b _
  rfl
theorem alike_strs : ∀ xs ys : List Str, PySem.W.alikeAll (xs.map .str) (ys.map .str) = true
  | [], _ => by simp [PySem.W.alikeAll]
  | _ :: _, [] => by simp [PySem.W.alikeAll]
  | x :: xs, y :: ys => by
    show PySem.W.alikeAll (.str x :: xs.map .str) (.str y :: ys.map .str) = true
    rw [PySem.W.alikeAll, alike_strs xs ys]
    simp [PySem.W.alike]
theorem depth_strs : ∀ xs : List Str, PyData.depthAll (xs.map .str) = 0
  | [] => by simp [PyData.depthAll]
  | x :: xs => by
    show PyData.depthAll (.str x :: xs.map .str) = 0
    rw [PyData.depthAll, depth_strs xs]
    simp [PyData.depth]
theorem alike_tT (zss : List (List Str)) : PySem.W.AllAlike (zss.map tT) := PySem.W.AllAlike.of fun b b' => by
  unfold tT
  rw [PySem.W.alike]
  exact alike_strs b b'
theorem sortable_tT {zss : List (List Str)} (h : ∀ z ∈ zss, z ≠ []) : PySem.W.Sortable (zss.map tT) := .inl fun d hd => by
  obtain ⟨z, hz, rfl⟩ := List.mem_map.mp hd
  cases z with
  | nil => exact absurd rfl (h _ hz)
  | cons x r => exact ⟨.str x, r.map .str, rfl⟩
theorem depth_tT (z : List Str) : (tT z).depth ≤ 20 := by
  unfold tT
  rw [PyData.depth, depth_strs]
  decide
theorem sortT_perm (zss : List (List Str)) : (sortT zss).Perm zss := List.mergeSort_perm ..
/-! the kinds of changes -/
def kindsF (t : Str) (fs : List Str) : List (List Str) := fs.flatMap fun f => [["off", t, f], ["on", t, f]]
def kindsT (t : Tab) : List (List Str) := ["drop", t.1] :: ["put", t.1] :: kindsF t.1 t.2.2
def kindsS (p : List Tab) : List (List Str) := p.flatMap kindsT
theorem kindsF_len (t : Str) (fs : List Str) : (kindsF t fs).length = 2 * fs.length := by
  unfold kindsF
  induction fs with
  | nil => rfl
  | cons f r ih =>
    rw [List.flatMap_cons, List.length_append, ih, List.length_cons]
    simp only [List.length_cons, List.length_nil]
    omega
theorem kindsS_len {p : List Tab} (h : ∀ t ∈ p, TabOk t) : (kindsS p).length ≤ 6 * p.length := by
  unfold kindsS
  induction p with
  | nil => exact Nat.le_refl 0
  | cons t r ih =>
    have h1 := (h t List.mem_cons_self).f2
    have h2 := ih fun x hx => h x (List.mem_cons_of_mem _ hx)
    rw [List.flatMap_cons, List.length_append, List.length_cons]
    have h3 : (kindsT t).length = 2 + 2 * t.2.2.length := by
      unfold kindsT
      rw [List.length_cons, List.length_cons, kindsF_len]
      omega
    rw [h3]
    omega
theorem kindsS_ne {p : List Tab} : ∀ z ∈ kindsS p, z ≠ [] := by
  intro z hz
  unfold kindsS kindsT kindsF at hz
  simp only [List.mem_flatMap, List.mem_cons, List.not_mem_nil, or_false] at hz
  obtain ⟨t, _, z1 | z1 | ⟨f, _, z1 | z1⟩⟩ := hz <;> rw [z1] <;> exact fun y => nomatch y
/-- tables by ascending names -/
def leP (a b : Tab) : Bool := decide (a.1.cps.toList ≤ b.1.cps.toList)
def sortP (p : List Tab) : List Tab := p.mergeSort leP
end K01
set_option Elab.async false
set_option linter.all false
set_option maxRecDepth 100000
set_option maxHeartbeats 4000000
namespace K01
open PySem PySem.Spec PyProof.Rows L2 Gd Evl Dl
abbrev NC : List Str := ["tables", "kinds", "table", "_", "flags", "flag"]
theorem le2 : 2 ≤ 100000 := by decide
theorem le3 : 3 ≤ 100000 := by decide
section
variable {P : Program} {w : World} {K : PySem.W.Frag} {mg : Str → Option Value} {base : Heap} {f : Addr} {fd : FuncData}
theorem scChanges : FnScope NC ["tables"] (defScope sChanges) := ⟨rfl, rfl, rfl, by decide +kernel, rfl, by decide +kernel, by decide +kernel⟩
def spChanges : DSpec := fun es b R _ => ∃ p, es = [.dat (.dict (p.map planP))] ∧ PlanOk p ∧ R (.own ((sortT (kindsS p)).map tT)) b
def kPre (t : Tab) (j : Nat) : List (List Str) := ["drop", t.1] :: ["put", t.1] :: kindsF t.1 (t.2.2.take j)
theorem kPre_len (t : Tab) (j : Nat) : (kPre t j).length = 2 + 2 * (t.2.2.take j).length := by
  unfold kPre
  rw [List.length_cons, List.length_cons, kindsF_len]
  omega
theorem kPre0 (t : Tab) : (kPre t 0).map tT = [.tuple [.str "drop", .str t.1], .tuple [.str "put", .str t.1]] := rfl
theorem ok_changes (hS : SysD K) (hm : mg "sorted" = none) (F : FnP K "_changes" sChanges f fd) : FnOk P w K mg base CX0 1 f fd ["tables"] (spD K 1 true [] spChanges) := by
  refine F.ok scChanges (fun vs H Q E h => spD_len h) (fun cdv A outer s H vs Q E hr h => ⟨_, PSs.nox (pss_cons (ps_set (i := 1) scChanges.nd rfl (Or.inl rfl) (pe_lst pa_nil))
    (pss_cons (ps_lock (ps_for PassesOwn.never rfl (pi_items (pv 0)) (pg_tup rfl (pgs_cons (pg_name (i := 2) scChanges.nd rfl (Or.inl rfl)) (pgs_cons (pg_tup rfl (pgs_cons (pg_name (i := 3) scChanges.nd rfl (Or.inl rfl)) (pgs_cons (pg_name (i := 4) scChanges.nd rfl (Or.inl rfl)) pgs_nil))) pgs_nil)))
      (pss_cons (ps_expr (pe_bm PySem.F.plainAttrs_list PySem.F.slot_list_append rfl mt_append (pv 1) (pa_cons (pe_tup (pa_cons pe_str (pa_cons (pv 2) pa_nil))) pa_nil)))
      (pss_cons (ps_expr (pe_bm PySem.F.plainAttrs_list PySem.F.slot_list_append rfl mt_append (pv 1) (pa_cons (pe_tup (pa_cons pe_str (pa_cons (pv 2) pa_nil))) pa_nil)))
      (pss_one (ps_for PassesOwn.never rfl (pi_tup (pv 4)) (pg_name (i := 5) scChanges.nd rfl (Or.inl rfl))
        (pss_cons (ps_expr (pe_bm PySem.F.plainAttrs_list PySem.F.slot_list_append rfl mt_append (pv 1) (pa_cons (pe_tup (pa_cons pe_str (pa_cons (pv 2) (pa_cons (pv 5) pa_nil)))) pa_nil)))
        (pss_one (ps_expr (pe_bm PySem.F.plainAttrs_list PySem.F.slot_list_append rfl mt_append (pv 1) (pa_cons (pe_tup (pa_cons pe_str (pa_cons (pv 2) (pa_cons (pv 5) pa_nil)))) pa_nil)))))))))))
    (pss_one (ps_ret (pe_callB (cr_sortedDt hr.units hS) (by rfl) hm (by decide +kernel) (pa_cons (pv 1) pa_nil)))))), ?_⟩)
  refine spD_enter h (by decide) fun B b es R he hT hu hX hBX ⟨p, e, hp, hR⟩ => ?_
  subst e
  obtain ⟨hf, hl⟩ := hu rfl
  refine mz_seq (mz_set (me_lst (ma_nil ⟨[], rfl, by decide, ?_⟩)))
  have kl : ∀ i, (kindsS (p.take i)).length ≤ 24 := fun i => by
    have h1 := kindsS_len (p := p.take i) fun t ht => hp.tb t (List.mem_of_mem_take ht)
    have h2 := hp.n4
    have h3 : (p.take i).length ≤ p.length := List.length_take_le' ..
    omega
  refine mz_seq (mz_forI (dk_var rfl hf hl) (fun i δ b' => ∃ x2 x3 x4 x5, δ = [some (.dat (.dict (p.map planP))), some (.own ((kindsS (p.take i)).map tT)), x2, x3, x4, x5] ∧ b' = b) ⟨none, none, none, none, rfl, rfl⟩ ?_ ?_)
  · rintro d o i q δ b' hq ⟨x2, x3, x4, x5, rfl, rfl⟩
    obtain ⟨t, ht, rfl⟩ := get_map hq
    have tk : kindsS (p.take (i + 1)) = kindsS (p.take i) ++ kindsT t := by
      unfold kindsS
      rw [List.take_add_one, ht, List.flatMap_append]
      simp
    have k0 := kl (i + 1)
    rw [tk, List.length_append] at k0
    refine mg_pair (mg_names (n := 2) (is := [3, 4]) rfl rfl ?_)
    refine mz_seq (mz_app (me_tup (ma_cons (me_str (ma_cons (me_var (ma_nil ⟨_, rfl, le2, _, rfl, ?_, ?_⟩)))))))
    · rw [List.length_map]
      omega
    refine mz_seq (mz_app (me_tup (ma_cons (me_str (ma_cons (me_var (ma_nil ⟨_, rfl, le2, _, rfl, ?_, ?_⟩)))))))
    · rw [List.length_append, List.length_map, List.length_singleton]
      omega
    refine mz_for (mi_tup (me_var ⟨_, rfl, fun j δ c => ∃ x5, δ = [some (.dat (.dict (p.map planP))), some (.own ((kindsS (p.take i) ++ kPre t j).map tT)), some (.dat (.str t.1)), some (.dat (.tuple (t.2.1.map colD))), some (.dat (.tuple (t.2.2.map .str))), x5] ∧ c = b', ⟨x5, ?_, rfl⟩, ?_, ?_⟩))
    · refine congrArg (fun z => [_, some (Dv.own z), _, _, _, _]) ?_
      rw [List.map_append, kPre0, List.append_assoc]
      rfl
    · rintro j x δ c hx ⟨y5, rfl, rfl⟩
      obtain ⟨f, hf', rfl⟩ := get_map hx
      have jl : (t.2.2.take j).length ≤ 2 := by
        have := (hp.tb t (List.mem_of_getElem? ht)).f2
        have h3 : (t.2.2.take j).length ≤ t.2.2.length := List.length_take_le' ..
        omega
      have fk : kPre t (j + 1) = kPre t j ++ ([["off", t.1, f], ["on", t.1, f]] : List (List Str)) := by
        unfold kPre kindsF
        rw [List.take_add_one, hf', List.flatMap_append]
        simp
      have k1 := kl i
      refine mg_name ?_
      refine mz_seq (mz_app (me_tup (ma_cons (me_str (ma_cons (me_var (ma_cons (me_var (ma_nil ⟨_, rfl, le3, _, rfl, ?_, ?_⟩)))))))))
      · rw [List.length_map, List.length_append, kPre_len]
        omega
      refine mz_app (me_tup (ma_cons (me_str (ma_cons (me_var (ma_cons (me_var (ma_nil ⟨_, rfl, le3, _, rfl, ?_, ?_⟩))))))))
      · rw [List.length_append, List.length_map, List.length_append, kPre_len, List.length_singleton]
        omega
      · refine ⟨_, congrArg (fun z => [_, some (Dv.own z), _, _, _, _]) ?_, rfl⟩
        rw [fk]
        simp only [List.map_append, List.append_assoc]
        rfl
    · rintro δ c ⟨y5, rfl, rfl⟩
      refine ⟨_, _, _, _, congrArg (fun z => [_, some (Dv.own z), _, _, _, _]) ?_, rfl⟩
      rw [tk, List.length_map, kPre, List.take_length] <;> rfl
  · rintro δ b' ⟨x2, x3, x4, x5, rfl, rfl⟩
    rw [List.length_map, List.take_length]
    refine mz_fz (i := 1) rfl (mz_ret (me_cb (ma_cons (me_var (ma_nil (cd_sortD (alike_tT _) (sortable_tT kindsS_ne) (fun d hd => ?_) ?_))))))
    · obtain ⟨z, _, rfl⟩ := List.mem_map.mp hd
      exact depth_tT z
    · rw [sortD_tT]
      exact hR
end
end K01
set_option Elab.async false
set_option linter.all false
set_option maxRecDepth 100000
set_option maxHeartbeats 4000000
/-! the data level: dicts -/
namespace Dl
open PySem PySem.Spec PyProof.Rows L2 Evl Gd LamX
/-- a walk's turns, by what holds before each -/
theorem it_gen {J : It} {n : Nat} {G : Hp → Prop} {Y : Nat → Hp → V → Hp → Prop} (w : Walk J n G Y) {Qd : Hp → Prop} {H0 : Hp} {step : (Hp → Prop) → V → Hp → Prop} (Pv : Nat → Hp → Prop) (h0 : Pv 0 H0) (hG : ∀ i H, i ≤ n → Pv i H → G H)
    (hs : ∀ i x H H', i < n → Pv i H → Y i H x H' → step (Pv (i + 1)) x H') (hd : ∀ H, Pv n H → Qd H) :
    ∃ W : Nat → Nat → Hp → Prop, (∃ m, W 0 m H0) ∧ ∀ i m H, W i m H → (J.stop i H ∧ Qd H) ∨ (J.go i H ∧ ∃ Nx : Hp → Prop, (∀ H', Nx H' → ∃ m', m' < m ∧ W (i + 1) m' H') ∧ ∀ x H', J.yld i H x H' → step Nx x H') := by
  refine ⟨fun i m H => i ≤ n ∧ m = n - i ∧ Pv i H, ⟨n, Nat.zero_le _, rfl, h0⟩, fun i m H ⟨h1, h2, h3⟩ => ?_⟩
  by_cases e : i = n
  · subst e
    exact .inl ⟨w.stops H (hG _ H (Nat.le_refl _) h3), hd H h3⟩
  · have lt : i < n := by omega
    have g := hG i H h1 h3
    exact .inr ⟨w.goes i H lt g, Pv (i + 1), fun H' q => ⟨n - (i + 1), by omega, by omega, rfl, q⟩, fun x H' y => hs i x H H' lt h3 (w.yields i H x H' lt g y)⟩
section
variable {K : PySem.W.Frag} {B : Base} {F F' H H' : Hp} {v : V} {e : Dv} {δ : Env} {b : Nat} {σ : L2.St} {ds : List PyData} {ta tb te tk tv td ty : TE} {t u : TT} {R : Dv → Nat → Prop} {S : Bool → Nat → Prop} {E : Ed} {D : Ends} {s1 s2 : TS} {g : TG} {o : Obj}
theorem putK_new {κ : Type} [DecidableEq κ] {kvs : List (κ × V)} {k : κ} {v : V} (h : k ∉ kvs.map (·.1)) : putK kvs k v = kvs ++ [(k, v)] := by
  unfold putK
  rw [if_neg]
  intro z
  obtain ⟨p, hp, e⟩ := List.any_eq_true.mp z
  exact h (List.mem_map.mpr ⟨p, hp, of_decide_eq_true e⟩)
theorem inr_inj : ∀ {a b : List Str}, a.map (Sum.inr (α := Int)) = b.map Sum.inr → a = b
  | [], [], _ => rfl
  | x :: a, y :: b, h => by
    rw [List.map_cons, List.map_cons] at h
    injection h with h1 h2
    injection h1 with h1
    rw [h1, inr_inj h2]
  | [], _ :: _, h => by cases h
  | _ :: _, [], h => by cases h
/-- a dict with keys tuples of texts -/
def IsTD (K : PySem.W.Frag) (l : List (List Str × PyData)) : Hp → V → Prop := fun F v => ∃ (a : Addr) (kvs : List (List Key × V)), v = .ref a ∧ F a = some (.dT kvs) ∧ kvs.map (·.1) = l.map (fun p => p.1.map Sum.inr) ∧ DqAll K F (kvs.map (·.2)) (l.map (·.2))
theorem IsTD.up {l : List (List Str × PyData)} (h : IsTD K l F v) (x : Ex F F') : IsTD K l F' v := by
  obtain ⟨a, kvs, h1, h2, h3, h4⟩ := h
  exact ⟨a, kvs, h1, x _ _ h2, h3, h4.up x⟩
theorem dT_code {xs : List (List Key × V)} {c : Addr} (h : H c = some (.dT xs)) (q : Str) : H c ≠ some (CodeO c q) := fun z => by
  rw [h] at z
  unfold CodeO at z
  cases z
/-- {k: e for .. in ..}: keys texts -/
theorem dc_st {J : It} {vs : List Nat} {Q : VK} (s : Sd K B δ b σ F H) (wd : WalkD K B F J ds) (hz : ds.length ≤ 100000) (IV : Nat → List (PyData × PyData) → Nat → Prop) (h0 : IV 0 [] b)
      (hs : ∀ i d acc b', ds[i]? = some d → acc.length ≤ i → IV i acc b' → ∀ σ0 F H, Sd K B (wipeE δ vs) b' (wipe σ0 vs) F H → ∀ v, Dq K F v d → ∀ Q : L2.St → Hp → Prop, (∀ δ2 σ2, Sd K B δ2 b' σ2 F H → wipe σ2 vs = wipe σ0 vs →
        Me K B tk δ2 b' (fun y b3 => ∃ k : Key, y.fz = .dat (keyD k) ∧ keyD k ∉ acc.map (·.1) ∧ Me K B tv δ2 b3 fun x b4 => ∃ z, x.fz = .dat z ∧ IV (i + 1) (acc ++ [(keyD k, z)]) b4) → Q σ2 H) → g v (wipe σ0 vs) H Q)
      (he : ∀ acc b', IV ds.length acc b' → R (.ownK acc) b') (k : ∀ v e b' F' H', R e b' → Sr K B b' F' H' → Go B F H F' H' → Dr K B F' H' v e → Nw H v e → Q v H') : tDc (iJ J) g tYes tk tv vs σ H Q := by
  obtain ⟨G, Y, w, hG, hY⟩ := wd
  intro p hp
  have hF1 := s.toSr.non hp
  have h00 := s.toSr.h0 hp
  have s0 := s.toSr.grow (Ex.new (o := .dK []) hp)
  refine it_gen w (Qd := Q (.ref p)) (step := fun Nx x H' => g x (wipe σ vs) H' fun σ2 H2 => wipe σ2 vs = wipe σ vs ∧ tYes σ2 H2 fun b H3 => if b = true then tk σ2 H3 fun y H4 => tv σ2 H4 fun z H5 => ∃ kvs k, y = kV k ∧ H5 p = some (.dK kvs) ∧ kvs.length < sizeLine ∧ Nx (upd H5 p (.dK (putK kvs k z))) else Nx H3)
    (fun i H' => ∃ acc kvs b' F', IV i acc b' ∧ acc.length ≤ i ∧ Sr K B b' F' H' ∧ Go B F H F' H' ∧ F' p = none ∧ H' p = some (.dK kvs) ∧ acc.map (·.1) = kvs.map (fun p => keyD p.1) ∧ DqAll K F' (kvs.map (·.2)) (acc.map (·.2)) ∧ (kvs.map (·.1)).Nodup)
    ⟨[], [], b, F, h0, Nat.le_refl _, s0, Go.of_ex (Ex.new hp), hF1, upd_same, rfl, .nil, .nil⟩ ?_ ?_ ?_
  · rintro i H' _ ⟨acc, kvs, b', F', _, _, r', g', _⟩
    exact hG b' F' H' g'.ex r'
  · rintro i v H2 H3 hi ⟨acc, kvs, b', F', q, ha, r', g', nF, hH, hk, hd, nd⟩ y
    obtain ⟨F3, r3, g3, d3⟩ := hY i v b' F' H2 H3 ds[i] g'.ex r' y (List.getElem?_eq_getElem hi)
    have cold := own_cold r' h00
    have hH3 := g3.kp p _ hH cold
    have nF3 := r3.noT (g3.nw p (by rw [hH]; exact fun z => nomatch z) nF cold) hH3 (fun _ z => nomatch z)
    have g13 := g'.trans g3
    have s3 := (s.back r3 g13).wiped vs
    refine hs i ds[i] acc b' (List.getElem?_eq_getElem hi) ha q σ F3 H3 s3 v d3 _ fun δ2 σ2 s2 hw m => ⟨hw, ?_⟩
    show tk σ2 H3 _
    refine Me.run (Rest := fun y b3 => ∃ k : Key, y = .dat (keyD k) ∧ keyD k ∉ acc.map (·.1) ∧ Me K B tv δ2 b3 fun x b4 => ∃ z, x.fz = .dat z ∧ IV (i + 1) (acc ++ [(keyD k, z)]) b4) m s2 fun vk yk b4 F4 H4 ⟨k, e4, nk, m4⟩ r4 g4 d4 => ?_
    subst e4
    have hH4 := g4.kp p _ hH3 cold
    have nF4 := r4.noT (g4.nw p (by rw [hH3]; exact fun z => nomatch z) nF3 cold) hH4 (fun _ z => nomatch z)
    refine Me.run (Rest := fun x b4 => ∃ z, x = .dat z ∧ IV (i + 1) (acc ++ [(keyD k, z)]) b4) m4 (s2.back r4 g4) fun vz yz b5 F5 H5 ⟨z, e5, q5⟩ r5 g5 d5 => ?_
    subst e5
    have hH5 := g5.kp p _ hH4 cold
    have nF5 := r5.noT (g5.nw p (by rw [hH4]; exact fun z => nomatch z) nF4 cold) hH5 (fun _ z => nomatch z)
    have g35 := (g13.trans g4).trans g5
    have ek : vk = kV k := by
      have d4' : Dq K F4 vk (keyD k) := d4
      cases k with
      | inl i =>
        cases d4'
        rfl
      | inr x =>
        cases d4'
        rfl
    have nk' : k ∉ kvs.map (·.1) := fun z => nk (by
      rw [hk]
      obtain ⟨pp, h1, h2⟩ := List.mem_map.mp z
      exact List.mem_map.mpr ⟨pp, h1, by rw [h2]⟩)
    have ll : kvs.length = acc.length := by
      have := congrArg List.length hk
      simpa using this.symm
    refine ⟨kvs, k, ek, hH5, sz_lt (by omega), acc ++ [(keyD k, z)], kvs ++ [(k, vz)], b5, F5, q5, by rw [List.length_append, List.length_singleton]; omega, r5.write h00 nF5 (dK_code hH5), ⟨g35.ex, fun a o h1 h2 => ?_, g35.nw⟩, nF5, by rw [upd_same, putK_new nk'], ?_, ?_, ?_⟩
    · have e : a ≠ p := ne_of_none h1 hp
      rw [upd_ne e]
      exact g35.kp a o h1 h2
    · rw [List.map_append, List.map_append, hk] <;> rfl
    · rw [List.map_append, List.map_append]
      exact DqAll.snoc (hd.up (g3.ex.trans (g4.ex.trans g5.ex))) d5
    · rw [List.map_append]
      refine List.nodup_append.mpr ⟨nd, by simp, fun a ha b hb => ?_⟩
      have : b = k := by simpa using hb
      subst this
      exact fun z => nk' (z ▸ ha)
  · rintro H' ⟨acc, kvs, b', F', q, _, r', g', nF, hH, hk, hd, nd⟩
    exact k (.ref p) (.ownK acc) b' F' H' (he acc b' q) r' g' ⟨p, kvs, rfl, h00, nF, hH, hk, hd, nd⟩ fun _ => ⟨p, rfl, hp⟩
/-- {k: e for .. in ..}: keys tuples of texts -/
theorem dcT_st {J : It} {vs : List Nat} {Q : VK} (s : Sd K B δ b σ F H) (wd : WalkD K B F J ds) (hz : ds.length ≤ 100000) (IV : Nat → List (List Str × PyData) → Nat → Prop) (h0 : IV 0 [] b)
      (hs : ∀ i d acc b', ds[i]? = some d → acc.length ≤ i → IV i acc b' → ∀ σ0 F H, Sd K B (wipeE δ vs) b' (wipe σ0 vs) F H → ∀ v, Dq K F v d → ∀ Q : L2.St → Hp → Prop, (∀ δ2 σ2, Sd K B δ2 b' σ2 F H → wipe σ2 vs = wipe σ0 vs →
        Me K B tk δ2 b' (fun y b3 => ∃ k : List Str, y.fz = .dat (.tuple (k.map .str)) ∧ k ∉ acc.map (·.1) ∧ Me K B tv δ2 b3 fun x b4 => ∃ z, x.fz = .dat z ∧ IV (i + 1) (acc ++ [(k, z)]) b4) → Q σ2 H) → g v (wipe σ0 vs) H Q)
      (he : ∀ acc b', IV ds.length acc b' → R (.mp (IsTD K acc)) b') (k : ∀ v e b' F' H', R e b' → Sr K B b' F' H' → Go B F H F' H' → Dr K B F' H' v e → Nw H v e → Q v H') : tDcT (iJ J) g tYes tk tv vs σ H Q := by
  obtain ⟨G, Y, w, hG, hY⟩ := wd
  intro p hp
  have hF1 := s.toSr.non hp
  have h00 := s.toSr.h0 hp
  have s0 := s.toSr.grow (Ex.new (o := .dT []) hp)
  refine it_gen w (Qd := Q (.ref p)) (step := fun Nx x H' => g x (wipe σ vs) H' fun σ2 H2 => wipe σ2 vs = wipe σ vs ∧ tYes σ2 H2 fun b H3 => if b = true then tk σ2 H3 fun y H4 => tv σ2 H4 fun z H5 => ∃ kvs k q, y = .ref q ∧ H5 q = some (.tup (k.map kV)) ∧ H5 p = some (.dT kvs) ∧ kvs.length < sizeLine ∧ Nx (upd H5 p (.dT (putK kvs k z))) else Nx H3)
    (fun i H' => ∃ acc kvs b' F', IV i acc b' ∧ acc.length ≤ i ∧ Sr K B b' F' H' ∧ Go B F H F' H' ∧ F' p = none ∧ H' p = some (.dT kvs) ∧ kvs.map (·.1) = acc.map (fun p => p.1.map Sum.inr) ∧ DqAll K F' (kvs.map (·.2)) (acc.map (·.2)))
    ⟨[], [], b, F, h0, Nat.le_refl _, s0, Go.of_ex (Ex.new hp), hF1, upd_same, rfl, .nil⟩ ?_ ?_ ?_
  · rintro i H' _ ⟨acc, kvs, b', F', _, _, r', g', _⟩
    exact hG b' F' H' g'.ex r'
  · rintro i v H2 H3 hi ⟨acc, kvs, b', F', q, ha, r', g', nF, hH, hk, hd⟩ y
    obtain ⟨F3, r3, g3, d3⟩ := hY i v b' F' H2 H3 ds[i] g'.ex r' y (List.getElem?_eq_getElem hi)
    have cold := own_cold r' h00
    have hH3 := g3.kp p _ hH cold
    have nF3 := r3.noT (g3.nw p (by rw [hH]; exact fun z => nomatch z) nF cold) hH3 (fun _ z => nomatch z)
    have g13 := g'.trans g3
    have s3 := (s.back r3 g13).wiped vs
    refine hs i ds[i] acc b' (List.getElem?_eq_getElem hi) ha q σ F3 H3 s3 v d3 _ fun δ2 σ2 s2 hw m => ⟨hw, ?_⟩
    show tk σ2 H3 _
    refine Me.run (Rest := fun y b3 => ∃ k : List Str, y = .dat (.tuple (k.map .str)) ∧ k ∉ acc.map (·.1) ∧ Me K B tv δ2 b3 fun x b4 => ∃ z, x.fz = .dat z ∧ IV (i + 1) (acc ++ [(k, z)]) b4) m s2 fun vk yk b4 F4 H4 ⟨k, e4, nk, m4⟩ r4 g4 d4 => ?_
    subst e4
    have hH4 := g4.kp p _ hH3 cold
    have nF4 := r4.noT (g4.nw p (by rw [hH3]; exact fun z => nomatch z) nF3 cold) hH4 (fun _ z => nomatch z)
    refine Me.run (Rest := fun x b4 => ∃ z, x = .dat z ∧ IV (i + 1) (acc ++ [(k, z)]) b4) m4 (s2.back r4 g4) fun vz yz b5 F5 H5 ⟨z, e5, q5⟩ r5 g5 d5 => ?_
    subst e5
    have hH5 := g5.kp p _ hH4 cold
    have nF5 := r5.noT (g5.nw p (by rw [hH4]; exact fun z => nomatch z) nF4 cold) hH5 (fun _ z => nomatch z)
    have g35 := (g13.trans g4).trans g5
    obtain ⟨qk, ek, tk⟩ : ∃ q, vk = .ref q ∧ F4 q = some (.tup (k.map V.str)) := by
      have d4' : Dq K F4 vk (.tuple (k.map .str)) := d4
      cases d4' with
      | @tup a vs _ hx hr =>
        have e : vs = k.map V.str := (fl_all (mapM_strs k) hr).1
        subst e
        rcases hx with hx | ⟨o, hx⟩
        · exact ⟨a, rfl, hx⟩
        · exact (xt_str (r4.nfz a o _ hx)).elim
    have nk' : (k.map (Sum.inr (α := Int))) ∉ kvs.map (·.1) := fun z => nk (by
      rw [hk] at z
      obtain ⟨pp, h1, h2⟩ := List.mem_map.mp z
      rw [← inr_inj h2]
      exact List.mem_map_of_mem h1)
    have hq5 : H5 qk = some (.tup ((k.map (Sum.inr (α := Int))).map kV)) := by
      have : (k.map (Sum.inr (α := Int))).map kV = k.map V.str := by
        rw [List.map_map] <;> rfl
      rw [this]
      exact r5.exact (g5.ex _ _ tk) (fun z => z)
    have ll : kvs.length = acc.length := by
      have := congrArg List.length hk
      simpa using this
    refine ⟨kvs, k.map Sum.inr, qk, ek, hq5, hH5, sz_lt (by omega), acc ++ [(k, z)], kvs ++ [(k.map Sum.inr, vz)], b5, F5, q5, by rw [List.length_append, List.length_singleton]; omega, r5.write h00 nF5 (dT_code hH5), ⟨g35.ex, fun a o h1 h2 => ?_, g35.nw⟩, nF5, by rw [upd_same, putK_new nk'], ?_, ?_⟩
    · have e : a ≠ p := ne_of_none h1 hp
      rw [upd_ne e]
      exact g35.kp a o h1 h2
    · rw [List.map_append, List.map_append, hk] <;> rfl
    · rw [List.map_append, List.map_append]
      exact DqAll.snoc (hd.up (g3.ex.trans (g4.ex.trans g5.ex))) d5
  · rintro H' ⟨acc, kvs, b', F', q, _, r', g', nF, hH, hk, hd⟩
    have x := Ex.new (H := F') (p := p) (o := .dT kvs) nF
    refine k (.ref p) (.mp (IsTD K acc)) b' _ H' (he acc b' q) (r'.freeze hH h00 nF (fun _ _ z => nomatch z) (fun _ z => nomatch z)) ⟨g'.ex.trans x, g'.kp, fun a h1 h2 h3 => ?_⟩ (fun F2 x2 => IsTD.up ⟨p, kvs, rfl, upd_same, hk, hd.up x⟩ x2) (Nw.no rfl)
    have e : a ≠ p := fun z => h1 (by rw [z, hp])
    rw [upd_ne e]
    exact g'.nw a h1 h2 h3
theorem take_snoc {α : Type} {l : List α} {i : Nat} {x : α} (h : l[i]? = some x) : l.take (i + 1) = l.take i ++ [x] := by
  rw [List.take_add_one, h] <;> rfl
theorem nd_take {α β : Type} {f : α → β} {l : List α} {i : Nat} {x : α} (nd : (l.map f).Nodup) (h : l[i]? = some x) : f x ∉ (l.take i).map f := fun z => by
  obtain ⟨y, hy, e⟩ := List.mem_map.mp z
  obtain ⟨k, hk, ek⟩ := List.getElem_of_mem hy
  have hk' : k < i := by
    rw [List.length_take] at hk
    omega
  have hi := (List.getElem?_eq_some_iff.mp h)
  have hkl : k < l.length := by
    have := hi.1
    omega
  rw [List.getElem_take] at ek
  have q : (l.map f)[k]'(by rw [List.length_map]; exact hkl) = (l.map f)[i]'(by rw [List.length_map]; exact hi.1) := by
    rw [List.getElem_map, List.getElem_map, ek, hi.2, e]
  have := List.pairwise_iff_getElem.mp nd k i (by rw [List.length_map]; exact hkl) (by rw [List.length_map]; exact hi.1) hk'
  exact this q
/-- {k: e for x in xs}, keys tuples -/
theorem me_dcTL {wi : TI} {vs : List Nat} {j : Nat} {R : Dv → Nat → Prop} (h : Mi K B wi δ b fun ds b1 => ds.length ≤ 100000 ∧ ∃ l : List (List Str × PyData), l.length = ds.length ∧ (l.map (·.1)).Nodup ∧
      (∀ (i : Nat) (d : PyData) (p : List Str × PyData), ds[i]? = some d → l[i]? = some p → Me K B tk ((wipeE δ vs).set j (some (.dat d))) b1 fun y b3 => y.fz = .dat (.tuple (p.1.map .str)) ∧ Me K B tv ((wipeE δ vs).set j (some (.dat d))) b3 fun x b4 => x.fz = .dat p.2 ∧ b4 = b1) ∧
      R (.mp (IsTD K l)) b1) (hj : j ∈ vs := by decide) : Me K B (tDcT wi (gName j) tYes tk tv vs) δ b R := fun σ F H s Q k =>
  h σ F H s _ fun J ds b1 F1 H1 ⟨hz, l, hl, nd, hs, hr⟩ r1 g1 wd => dcT_st (R := R) (s.back r1 g1) wd hz (fun i acc b' => acc = l.take i ∧ b' = b1) ⟨by simp, rfl⟩ (fun i d acc b' hi ha ⟨q1, q2⟩ σ0 F2 H2 sw v hx Q2 kk => by
    subst q1 q2
    have hil := (List.getElem?_eq_some_iff.mp hi).1
    have hp : l[i]? = some l[i] := List.getElem?_eq_getElem (by omega)
    refine kk _ _ (sw.set j (e := .dat d) hx (fun o => by cases o)) (by rw [wipe_in hj, wipe_idem _ _ _ fun _ h => h]) ((hs i d _ hi hp).mono fun y b3 ⟨z1, z2⟩ => ⟨_, z1, nd_take nd hp, z2.mono fun x b4 ⟨z3, z4⟩ => ⟨_, z3, (take_snoc hp).symm ▸ rfl, z4⟩⟩)) (fun acc b' ⟨q1, q2⟩ => by
    subst q1 q2
    rw [← hl, List.take_length]
    exact hr) fun v e b' F' H' r s' g d n => k v e b' F' H' r s' (g1.trans g) d (n.back g1 r1)
/-- {k: e for x in xs} -/
theorem me_dcL {wi : TI} {vs : List Nat} {j : Nat} {R : Dv → Nat → Prop} (h : Mi K B wi δ b fun ds b1 => ds.length ≤ 100000 ∧ ∃ l : List (Key × PyData), l.length = ds.length ∧ (l.map fun p => keyD p.1).Nodup ∧
      (∀ (i : Nat) (d : PyData) (p : Key × PyData), ds[i]? = some d → l[i]? = some p → Me K B tk ((wipeE δ vs).set j (some (.dat d))) b1 fun y b3 => y.fz = .dat (keyD p.1) ∧ Me K B tv ((wipeE δ vs).set j (some (.dat d))) b3 fun x b4 => x.fz = .dat p.2 ∧ b4 = b1) ∧
      R (.ownK (l.map fun p => (keyD p.1, p.2))) b1) (hj : j ∈ vs := by decide) : Me K B (tDc wi (gName j) tYes tk tv vs) δ b R := fun σ F H s Q k =>
  h σ F H s _ fun J ds b1 F1 H1 ⟨hz, l, hl, nd, hs, hr⟩ r1 g1 wd => dc_st (R := R) (s.back r1 g1) wd hz (fun i acc b' => acc = (l.take i).map (fun p => (keyD p.1, p.2)) ∧ b' = b1) ⟨by simp, rfl⟩ (fun i d acc b' hi ha ⟨q1, q2⟩ σ0 F2 H2 sw v hx Q2 kk => by
    subst q1 q2
    have hil := (List.getElem?_eq_some_iff.mp hi).1
    have hp : l[i]? = some l[i] := List.getElem?_eq_getElem (by omega)
    refine kk _ _ (sw.set j (e := .dat d) hx (fun o => by cases o)) (by rw [wipe_in hj, wipe_idem _ _ _ fun _ h => h]) ((hs i d _ hi hp).mono fun y b3 ⟨z1, z2⟩ => ⟨_, z1, ?_, z2.mono fun x b4 ⟨z3, z4⟩ => ⟨_, z3, ?_, z4⟩⟩)
    · rw [List.map_map]
      exact nd_take (f := fun p : Key × PyData => keyD p.1) nd hp
    · rw [take_snoc hp, List.map_append] <;> rfl) (fun acc b' ⟨q1, q2⟩ => by
    subst q1 q2
    rw [← hl, List.take_length]
    exact hr) fun v e b' F' H' r s' g d n => k v e b' F' H' r s' (g1.trans g) d (n.back g1 r1)
/-- a target (x, (y, ..)) of a comprehension -/
theorem wg_pair {vs is : List Nat} {i n : Nat} {x : PyData} {ys : List PyData} {σ0 : L2.St} {Q : L2.St → Hp → Prop} (s : Sd K B (wipeE δ vs) b (wipe σ0 vs) F H) (hd : Dq K F v (.tuple [x, .tuple ys])) (hi : i ∈ vs) (his : ∀ j ∈ is, j ∈ vs) (hn : is.length = n) (hy : ys.length = n)
    (k : ∀ σ', Sd K B (setAll ((wipeE δ vs).set i (some (.dat x))) is ys) b σ' F H → wipe σ' vs = wipe σ0 vs → Q σ' H) : gTup K 2 (gCons (gName i) (gCons (gTup K n (gNames is)) gNil)) v (wipe σ0 vs) H Q := by
  cases hd with
  | @tup a ws _ hs hr =>
    cases hr with
    | cons h1 h2 =>
      cases h2 with
      | cons h3 h4 =>
        cases h4
        cases h3 with
        | @tup a2 ws2 _ hs2 hr2 =>
          refine ⟨a, _, rfl, lk_t s.lk (.inl hs), rfl, _, _, rfl, _, _, rfl, a2, ws2, rfl, lk_t s.lk (.inl hs2), by rw [hr2.len, hy], ?_⟩
          refine wipe_gnames is (δ := (wipeE δ vs).set i (some (.dat x))) (s.set i (e := .dat x) h1 (fun o => by cases o)) hr2 (by rw [hn, hy]) his fun σ' s' hw => ⟨rfl, k σ' s' ?_⟩
          rw [hw, wipe_in hi, wipe_idem _ _ _ fun _ h => h]
/-- {k: e for x, (y, z) in d.items()} -/
theorem me_dcI {td : TE} {ps : List (PyData × PyData)} {vs is : List Nat} {j n : Nat} {R : Dv → Nat → Prop} (hd : DkT K B td δ b ps) (hz : ps.length ≤ 100000) (l : List (Key × PyData)) (hl : l.length = ps.length) (nd : (l.map fun p => keyD p.1).Nodup)
      (hs : ∀ (d : Addr) (o : Obj) (i : Nat) (q : PyData × PyData) (p : Key × PyData), ps[i]? = some q → l[i]? = some p → ∃ ys, q.2 = .tuple ys ∧ ys.length = n ∧ Me K (B.lock d o) tk (setAll ((wipeE δ vs).set j (some (.dat q.1))) is ys) b fun y b3 => y.fz = .dat (keyD p.1) ∧ Me K (B.lock d o) tv (setAll ((wipeE δ vs).set j (some (.dat q.1))) is ys) b3 fun x b4 => x.fz = .dat p.2 ∧ b4 = b)
      (hr : R (.ownK (l.map fun p => (keyD p.1, p.2))) b) (hj : j ∈ vs := by decide) (his : ∀ i ∈ is, i ∈ vs := by decide) (hn : is.length = n := by rfl) : Me K B (tLockE (tDc (iItems td) (gTup K 2 (gCons (gName j) (gCons (gTup K n (gNames is)) gNil))) tYes tk tv vs)) δ b R := fun σ F H s Q k => by
  obtain ⟨d, kvs, hF, hH, hk, hv, ht⟩ := hd σ F H s
  refine lock_e (w := .dK kvs) s True.intro hF hH k fun o Q' k' => ht o _ ⟨d, o, kvs, rfl, upd_same, ?_⟩
  refine dc_st (R := R) (s.lock (w := .dK kvs) True.intro hF hH) (.items hF hk hv) (by rw [List.length_map]; exact hz) (fun i acc b' => acc = (l.take i).map (fun p => (keyD p.1, p.2)) ∧ b' = b) ⟨by simp, rfl⟩ (fun i x acc b' hi ha ⟨q1, q2⟩ σ0 F1 H1 sw v hx Q2 kk => ?_) (fun acc b' ⟨q1, q2⟩ => ?_) k'
  · obtain ⟨q, hq, rfl⟩ := get_map hi
    subst q1 q2
    have hil := (List.getElem?_eq_some_iff.mp hq).1
    have hp : l[i]? = some l[i] := List.getElem?_eq_getElem (by omega)
    obtain ⟨ys, e1, e2, m⟩ := hs d o i q _ hq hp
    rw [e1] at hx
    refine wg_pair sw hx hj his hn e2 fun σ' s' hw => kk _ _ s' hw (m.mono fun y b3 ⟨z1, z2⟩ => ⟨_, z1, ?_, z2.mono fun x b4 ⟨z3, z4⟩ => ⟨_, z3, ?_, z4⟩⟩)
    · rw [List.map_map]
      exact nd_take (f := fun p : Key × PyData => keyD p.1) nd hp
    · rw [take_snoc hp, List.map_append] <;> rfl
  · subst q1 q2
    rw [List.length_map, ← hl, List.take_length]
    exact hr
end
end Dl
set_option Elab.async false
set_option linter.all false
set_option maxRecDepth 100000
set_option maxHeartbeats 4000000
/-! the data level: what dicts tell -/
namespace Dl
open PySem PySem.Spec PyProof.Rows L2 Evl Gd LamX
section
variable {K : PySem.W.Frag} {B : Base} {F F' H H' : Hp} {v : V} {e : Dv} {δ : Env} {b : Nat} {σ : L2.St} {ds : List PyData} {ta tb te tk tv td ty : TE} {t u : TT} {R : Dv → Nat → Prop} {S : Bool → Nat → Prop} {E : Ed} {D : Ends} {s1 s2 : TS} {g : TG} {o : Obj}
/-- the value of a key -/
def keyIs : PyData → Key → Bool
  | .str x, .inr y => decide (x = y)
  | .int i, .inl j => decide (i = j)
  | _, _ => false
def lookK (ps : List (PyData × PyData)) (k : Key) : Option PyData := (ps.find? fun p => keyIs p.1 k).map (·.2)
def lookT (l : List (List Str × PyData)) (k : List Str) : Option PyData := (l.find? fun p => decide (p.1 = k)).map (·.2)
theorem keyIs_key (a b : Key) : keyIs (keyD a) b = decide (a = b) := by
  cases a with
  | inl i =>
    cases b with
    | inl j => exact decide_eq_decide.mpr ⟨fun z => by rw [z], fun z => by cases z; rfl⟩
    | inr y => exact (decide_eq_false (fun z => nomatch z)).symm
  | inr x =>
    cases b with
    | inl j => exact (decide_eq_false (fun z => nomatch z)).symm
    | inr y => exact decide_eq_decide.mpr ⟨fun z => by rw [z], fun z => by cases z; rfl⟩
theorem look_gen {κ α : Type} [DecidableEq κ] {f : κ → α} {eq : α → κ → Bool} (hf : ∀ a b, eq (f a) b = decide (a = b)) {F : Hp} : ∀ {kvs : List (κ × V)} {ps : List (α × PyData)} {k : κ}, ps.map (·.1) = kvs.map (fun p => f p.1) → DqAll K F (kvs.map (·.2)) (ps.map (·.2)) →
    (∃ d w, (ps.find? fun p => eq p.1 k).map (·.2) = some d ∧ valV kvs k = some w ∧ Dq K F w d) ∨ ((ps.find? fun p => eq p.1 k).map (·.2) = none ∧ valV kvs k = none)
  | [], [], k, _, _ => .inr ⟨rfl, rfl⟩
  | [], _ :: _, k, h, _ => by cases h
  | _ :: _, [], k, h, _ => by cases h
  | kv :: kvs, p :: ps, k, h, r => by
    rw [List.map_cons, List.map_cons] at h
    injection h with h1 h2
    rw [List.map_cons, List.map_cons] at r
    cases r with
    | cons r1 r2 =>
      unfold valV
      rw [List.find?_cons, List.find?_cons, h1]
      by_cases e : kv.1 = k
      · rw [hf, decide_eq_true e]
        exact .inl ⟨_, _, rfl, rfl, r1⟩
      · rw [hf, decide_eq_false e]
        exact look_gen hf h2 r2
theorem look_k {kvs : List (Key × V)} {ps : List (PyData × PyData)} {k : Key} (h : ps.map (·.1) = kvs.map (fun p => keyD p.1)) (r : DqAll K F (kvs.map (·.2)) (ps.map (·.2))) :
    (∃ d w, lookK ps k = some d ∧ valV kvs k = some w ∧ Dq K F w d) ∨ (lookK ps k = none ∧ valV kvs k = none) := look_gen keyIs_key h r
theorem look_t {kvs : List (List Key × V)} {l : List (List Str × PyData)} {k : List Str} (h : kvs.map (·.1) = l.map fun p => p.1.map Sum.inr) (r : DqAll K F (kvs.map (·.2)) (l.map (·.2))) :
    (∃ d w, lookT l k = some d ∧ valV kvs (k.map Sum.inr) = some w ∧ Dq K F w d) ∨ (lookT l k = none ∧ valV kvs (k.map Sum.inr) = none) := by
  have h' : (l.map fun p => (p.1.map (Sum.inr (α := Int)), p.2)).map (·.1) = kvs.map fun p => id p.1 := by
    rw [List.map_map]
    exact h.symm
  have r' : DqAll K F (kvs.map (·.2)) ((l.map fun p => (p.1.map (Sum.inr (α := Int)), p.2)).map (·.2)) := by
    rw [List.map_map]
    exact r
  have e : ((l.map fun p => (p.1.map (Sum.inr (α := Int)), p.2)).find? fun p => decide (p.1 = k.map Sum.inr)).map (·.2) = lookT l k := by
    unfold lookT
    rw [List.find?_map, Option.map_map]
    have : ((fun p : List Key × PyData => decide (p.1 = k.map (Sum.inr (α := Int)))) ∘ fun p : List Str × PyData => (p.1.map (Sum.inr (α := Int)), p.2)) = fun p => decide (p.1 = k) := by
      funext p
      exact decide_eq_decide.mpr ⟨inr_inj, fun z => by rw [← z] <;> rfl⟩
    rw [this] <;> rfl
  have := look_gen (K := K) (f := id) (eq := fun a b => decide (a = b)) (fun a b => rfl) (k := k.map Sum.inr) h' r'
  rwa [e] at this
theorem key_val {k : Key} (h : Dq K F v (keyD k)) : v = kV k := by
  cases k with
  | inl i =>
    cases h
    rfl
  | inr x =>
    cases h
    rfl
theorem tup_val {k : List Str} (nfz : ∀ a o u, F a = some (.frz o u) → XT o u) (h : Dq K F v (.tuple (k.map .str))) : ∃ q, v = .ref q ∧ F q = some (.tup ((k.map (Sum.inr (α := Int))).map kV)) := by
  cases h with
  | @tup a vs _ hx hr =>
    have e : vs = k.map V.str := (fl_all (mapM_strs k) hr).1
    subst e
    rcases hx with hx | ⟨o, hx⟩
    · have : (k.map (Sum.inr (α := Int))).map kV = k.map V.str := by
        rw [List.map_map] <;> rfl
      exact ⟨a, rfl, this ▸ hx⟩
    · exact (xt_str (nfz a o _ hx)).elim
/-- d[k] -/
theorem me_dget (h : Me K B td δ b fun x b1 => Me K B ty δ b1 fun y b2 => ∃ ps k d, x.fz = .dat (.dict ps) ∧ y.fz = .dat (keyD k) ∧ lookK ps k = some d ∧ R (.dat d) b2) : Me K B (tDGet td ty) δ b R := fun σ F H s Q q =>
  Me.run (Rest := fun x b1 => Me K B ty δ b1 fun y b2 => ∃ ps k d, x = .dat (.dict ps) ∧ y.fz = .dat (keyD k) ∧ lookK ps k = some d ∧ R (.dat d) b2) h s fun vx x b1 F1 H1 h1 r1 g1 d1 =>
    Me.run (Rest := fun y b2 => ∃ ps k d, x = .dat (.dict ps) ∧ y = .dat (keyD k) ∧ lookK ps k = some d ∧ R (.dat d) b2) h1 (s.back r1 g1) fun vy y b2 F2 H2 ⟨ps, k, d, e1, e2, e3, r⟩ r2 g2 d2 => by
      subst e1 e2
      have d1' : Dq K F2 vx (.dict ps) := (show Dq K F1 vx (.dict ps) from d1).up g2.ex
      rw [key_val (show Dq K F2 vy (keyD k) from d2)]
      cases d1' with
      | @dct a kvs _ hr hk hv =>
        rcases look_k (k := k) hk hv with ⟨d', w, q1, q2, q3⟩ | ⟨q1, _⟩
        · rw [e3] at q1
          cases q1
          exact ⟨a, w, rfl, .inl ⟨kvs, k, r2.lk _ _ hr, rfl, q2.symm⟩, q w _ b2 F2 H2 r r2 (g1.trans g2) q3 (Nw.no rfl)⟩
        · rw [e3] at q1
          cases q1
/-- k in d -/
theorem me_din (h : Me K B ty δ b fun y b1 => Me K B td δ b1 fun x b2 => ∃ ps k, x.fz = .dat (.dict ps) ∧ y.fz = .dat (keyD k) ∧ R (.dat (.bool (lookK ps k).isSome)) b2) : Me K B (tDIn ty td) δ b R := fun σ F H s Q q =>
  Me.run (Rest := fun y b1 => Me K B td δ b1 fun x b2 => ∃ ps k, x.fz = .dat (.dict ps) ∧ y = .dat (keyD k) ∧ R (.dat (.bool (lookK ps k).isSome)) b2) h s fun vy y b1 F1 H1 h1 r1 g1 d1 =>
    Me.run (Rest := fun x b2 => ∃ ps k, x = .dat (.dict ps) ∧ y = .dat (keyD k) ∧ R (.dat (.bool (lookK ps k).isSome)) b2) h1 (s.back r1 g1) fun vx x b2 F2 H2 ⟨ps, k, e1, e2, r⟩ r2 g2 d2 => by
      subst e1 e2
      rw [key_val (show Dq K F1 vy (keyD k) from d1)]
      cases (show Dq K F2 vx (.dict ps) from d2) with
      | @dct a kvs _ hr hk hv =>
        rcases look_k (k := k) hk hv with ⟨d', w, q1, q2, q3⟩ | ⟨q1, q2⟩
        · rw [q1] at r
          exact ⟨a, some w, rfl, .inl ⟨kvs, k, r2.lk _ _ hr, rfl, q2.symm⟩, q _ _ b2 F2 H2 r r2 (g1.trans g2) (.bl true) (Nw.no rfl)⟩
        · rw [q1] at r
          exact ⟨a, none, rfl, .inl ⟨kvs, k, r2.lk _ _ hr, rfl, q2.symm⟩, q _ _ b2 F2 H2 r r2 (g1.trans g2) (.bl false) (Nw.no rfl)⟩
/-- k not in d -/
theorem me_dnotin (h : Me K B ty δ b fun y b1 => Me K B td δ b1 fun x b2 => ∃ ps k, x.fz = .dat (.dict ps) ∧ y.fz = .dat (keyD k) ∧ R (.dat (.bool (!(lookK ps k).isSome))) b2) : Me K B (tDNotIn ty td) δ b R := fun σ F H s Q q =>
  Me.run (Rest := fun y b1 => Me K B td δ b1 fun x b2 => ∃ ps k, x.fz = .dat (.dict ps) ∧ y = .dat (keyD k) ∧ R (.dat (.bool (!(lookK ps k).isSome))) b2) h s fun vy y b1 F1 H1 h1 r1 g1 d1 =>
    Me.run (Rest := fun x b2 => ∃ ps k, x = .dat (.dict ps) ∧ y = .dat (keyD k) ∧ R (.dat (.bool (!(lookK ps k).isSome))) b2) h1 (s.back r1 g1) fun vx x b2 F2 H2 ⟨ps, k, e1, e2, r⟩ r2 g2 d2 => by
      subst e1 e2
      rw [key_val (show Dq K F1 vy (keyD k) from d1)]
      cases (show Dq K F2 vx (.dict ps) from d2) with
      | @dct a kvs _ hr hk hv =>
        rcases look_k (k := k) hk hv with ⟨d', w, q1, q2, q3⟩ | ⟨q1, q2⟩
        · rw [q1] at r
          exact ⟨a, some w, rfl, .inl ⟨kvs, k, r2.lk _ _ hr, rfl, q2.symm⟩, q _ _ b2 F2 H2 r r2 (g1.trans g2) (.bl false) (Nw.no rfl)⟩
        · rw [q1] at r
          exact ⟨a, none, rfl, .inl ⟨kvs, k, r2.lk _ _ hr, rfl, q2.symm⟩, q _ _ b2 F2 H2 r r2 (g1.trans g2) (.bl true) (Nw.no rfl)⟩
theorem mp_at {P : Hp → V → Prop} (h : Df K B F v (.mp P)) : P F v := (show ∀ F', Ex F F' → P F' v from h) F (Ex.refl F)
/-- d[(..)] -/
theorem me_dgetT (h : Me K B td δ b fun x b1 => Me K B ty δ b1 fun y b2 => ∃ l k d, x = .mp (IsTD K l) ∧ y.fz = .dat (.tuple (k.map .str)) ∧ lookT l k = some d ∧ R (.dat d) b2) : Me K B (tDGet td ty) δ b R := fun σ F H s Q q =>
  h σ F H s _ fun vx x b1 F1 H1 h1 r1 g1 d1 _ =>
    Me.run (Rest := fun y b2 => ∃ l k d, x = .mp (IsTD K l) ∧ y = .dat (.tuple (k.map .str)) ∧ lookT l k = some d ∧ R (.dat d) b2) h1 (s.back r1 g1) fun vy y b2 F2 H2 ⟨l, k, d, e1, e2, e3, r⟩ r2 g2 d2 => by
      subst e1 e2
      obtain ⟨a, kvs, rfl, hF, hk, hv⟩ := (mp_at (show Df K B F1 vx (.mp (IsTD K l)) from d1)).up g2.ex
      obtain ⟨p, rfl, hp⟩ := tup_val r2.nfz (show Dq K F2 vy (.tuple (k.map .str)) from d2)
      rcases look_t (k := k) hk hv with ⟨d', w, q1, q2, q3⟩ | ⟨q1, _⟩
      · rw [e3] at q1
        cases q1
        exact ⟨a, w, rfl, .inr ⟨kvs, _, p, r2.lk _ _ (.inl hF), rfl, r2.exact hp (fun z => z), q2.symm⟩, q w _ b2 F2 H2 r r2 (g1.trans g2) q3 (Nw.no rfl)⟩
      · rw [e3] at q1
        cases q1
/-- (..) in d -/
theorem me_dinT (h : Me K B ty δ b fun y b1 => Me K B td δ b1 fun x b2 => ∃ l k, x = .mp (IsTD K l) ∧ y.fz = .dat (.tuple (k.map .str)) ∧ R (.dat (.bool (lookT l k).isSome)) b2) : Me K B (tDIn ty td) δ b R := fun σ F H s Q q =>
  Me.run (te := ty) (Rest := fun y b1 => Me K B td δ b1 fun x b2 => ∃ l k, x = .mp (IsTD K l) ∧ y = .dat (.tuple (k.map .str)) ∧ R (.dat (.bool (lookT l k).isSome)) b2) h s fun vy y b1 F1 H1 h1 r1 g1 d1 =>
    h1 σ F1 H1 (s.back r1 g1) _ fun vx x b2 F2 H2 ⟨l, k, e1, e2, r⟩ r2 g2 d2 _ => by
      subst e1 e2
      obtain ⟨a, kvs, rfl, hF, hk, hv⟩ := mp_at (show Df K B F2 vx (.mp (IsTD K l)) from d2)
      obtain ⟨p, rfl, hp⟩ := tup_val r2.nfz ((show Dq K F1 vy (.tuple (k.map .str)) from d1).up g2.ex)
      have hq := r2.exact hp (fun z => z)
      rcases look_t (k := k) hk hv with ⟨d', w, q1, q2, q3⟩ | ⟨q1, q2⟩
      · rw [q1] at r
        exact ⟨a, some w, rfl, .inr ⟨kvs, _, p, r2.lk _ _ (.inl hF), rfl, hq, q2.symm⟩, q _ _ b2 F2 H2 r r2 (g1.trans g2) (.bl true) (Nw.no rfl)⟩
      · rw [q1] at r
        exact ⟨a, none, rfl, .inr ⟨kvs, _, p, r2.lk _ _ (.inl hF), rfl, hq, q2.symm⟩, q _ _ b2 F2 H2 r r2 (g1.trans g2) (.bl false) (Nw.no rfl)⟩
/-- isinstance(x, T) of data -/
theorem me_isi {T : String} (h : Me K B te δ b fun x b1 => ∃ d, x.fz = .dat d ∧ R (.dat (.bool (decide (tyD d = T)))) b1) (hT : tysD.all (fun t => decide (kitB t T = some (decide (t = T)))) = true := by decide +kernel) :
    Me K B (tCB (rIsi K) (tCons te (tCons (tC (.ty T)) tNil))) δ b R :=
  me_cb (ma_cons (h.mono fun x b1 ⟨d, e, r⟩ => ma_cons (me_mp (P := fun _ v => v = .ty T) (fun _ => rfl) (ma_nil (by
    rw [e]
    exact cd_isi (fun _ _ z => z) hT r)))))
end
end Dl
set_option Elab.async false
set_option linter.all false
set_option maxRecDepth 100000
set_option maxHeartbeats 4000000
/-! the data level: sorted texts, lists of keys, attributes -/
namespace Dl
open PySem PySem.Spec PyProof.Rows L2 Evl Gd LamX
/-- texts, ascending -/
def leS (a b : Str) : Bool := decide (a.cps.toList ≤ b.cps.toList)
def sortS (xs : List Str) : List Str := xs.mergeSort leS
theorem str_toList {a b : Str} (h : a.cps.toList = b.cps.toList) : a = b := by
  cases a with
  | mk a =>
    cases b with
    | mk b => exact congrArg Str.mk (Array.toList_inj.mp h)
theorem leS_trans (a b c : Str) (h1 : leS a b = true) (h2 : leS b c = true) : leS a c = true :=
  decide_eq_true (List.le_trans (of_decide_eq_true h1) (of_decide_eq_true h2))
theorem leS_total (a b : Str) : (leS a b || leS b a) = true := by
  rw [Bool.or_eq_true]
  exact (List.le_total a.cps.toList b.cps.toList).imp decide_eq_true decide_eq_true
theorem leS_anti {a b : Str} (h1 : leS a b = true) (h2 : leS b a = true) : a = b := str_toList (List.le_antisymm (of_decide_eq_true h1) (of_decide_eq_true h2))
theorem rising_pw : ∀ (p : Str) (l : List Str), risingS p l = true → List.Pairwise (fun a b => leS a b = true) (p :: l)
  | p, [], _ => List.pairwise_singleton _ _
  | p, x :: r, h => by
    unfold risingS at h
    rw [Bool.and_eq_true, Bool.not_eq_true', ltCps_eq] at h
    have ih := rising_pw x r h.2
    have px : leS p x = true := decide_eq_true (List.not_lt.mp (of_decide_eq_false h.1))
    refine List.Pairwise.cons (fun y hy => ?_) ih
    rcases List.mem_cons.mp hy with rfl | hy
    · exact px
    · exact leS_trans _ _ _ px ((List.pairwise_cons.mp ih).1 y hy)
theorem sortedS_pw {l : List Str} (h : sortedS l = true) : List.Pairwise (fun a b => leS a b = true) l := by
  cases l with
  | nil => exact .nil
  | cons p l => exact rising_pw p l h
theorem sortS_pw (l : List Str) : List.Pairwise (fun a b => leS a b = true) (sortS l) := List.pairwise_mergeSort leS_trans leS_total l
theorem sortS_perm (l : List Str) : (sortS l).Perm l := List.mergeSort_perm ..
theorem sortS_of {ys ks : List Str} (p : ys.Perm ks) (h : sortedS ys = true) : ys = sortS ks :=
  List.Perm.eq_of_pairwise (fun a b _ _ => leS_anti) (sortedS_pw h) (sortS_pw ks) (p.trans (sortS_perm ks).symm)
theorem sortS_eq {xs ys : List Str} (p : xs.Perm ys) : sortS xs = sortS ys :=
  List.Perm.eq_of_pairwise (fun a b _ _ => leS_anti) (sortS_pw xs) (sortS_pw ys) (((sortS_perm xs).trans p).trans (sortS_perm ys).symm)
section
variable {K : PySem.W.Frag} {B : Base} {F F' H H' : Hp} {v : V} {e : Dv} {δ : Env} {b : Nat} {σ : L2.St} {ds : List PyData} {ta tb te tk tv td ty : TE} {t u : TT} {R : Dv → Nat → Prop} {S : Bool → Nat → Prop} {E : Ed} {D : Ends} {s1 s2 : TS} {g : TG} {o : Obj}
theorem dq_strs : ∀ xs : List Str, DqAll K F (xs.map V.str) (xs.map PyData.str)
  | [] => .nil
  | x :: r => .cons (.str x) (dq_strs r)
theorem dq_keys : ∀ ks : List Key, DqAll K F (ks.map kV) (ks.map keyD)
  | [] => .nil
  | k :: r => .cons (key_dq k) (dq_keys r)
abbrev rSortedD : List V → Hp → VK → Prop := fun xs H Q => ∃ (a : Addr) (kvs : List (Key × V)) (ks : List Str), xs = [.ref a] ∧ Rd H a (.dK kvs) ∧ kvs.map (·.1) = ks.map Sum.inr ∧ ks.length < 64 ∧
    ∀ ys p, ys.Perm ks → sortedS ys = true → H p = none → Q (.ref p) (upd H p (.lst (ys.map V.str)))
/-- sorted(d), keys texts -/
theorem cd_sortK {ps : List (PyData × PyData)} {ks : List Str} (hk : ps.map (·.1) = ks.map PyData.str) (hl : ks.length < 64) (k : R (.own ((sortS ks).map .str)) b) : CallD K B rSortedD [.dat (.dict ps)] b R := fun F H s vs hs Q q => by
  obtain ⟨v, rfl, h⟩ := df1 hs
  cases (show Dq K F v (.dict ps) from h) with
  | @dct a kvs _ hr hk' hv =>
    refine ⟨a, kvs, ks, rfl, s.lk _ _ hr, ?_, hl, fun ys p hp hy hn => ?_⟩
    · rw [hk] at hk'
      have e1 : (kvs.map (·.1)).map keyD = (ks.map (Sum.inr (α := Int))).map keyD := by
        rw [List.map_map, List.map_map]
        exact hk'.symm
      exact (List.map_inj_right (f := keyD) (fun a b z => by
        cases a with
        | inl i =>
          cases b with
          | inl j =>
            cases z
            rfl
          | inr y => cases z
        | inr x =>
          cases b with
          | inl j => cases z
          | inr y =>
            cases z
            rfl)).mp e1
    · rw [sortS_of hp hy]
      obtain ⟨s2, g2, d2, n2⟩ := s.newL hn (dq_strs (K := K) (F := F) (sortS ks))
      exact q _ _ b F _ k s2 g2 d2 n2
abbrev rListD : List V → Hp → VK → Prop := fun xs H Q => ∃ (a : Addr) (kvs : List (Key × V)), xs = [.ref a] ∧ Rd H a (.dK kvs) ∧ ∀ p, H p = none → Q (.ref p) (upd H p (.lst (kvs.map fun kv => kV kv.1)))
/-- list(d) -/
theorem cd_listK {ps : List (PyData × PyData)} (k : R (.own (ps.map (·.1))) b) : CallD K B rListD [.dat (.dict ps)] b R := fun F H s vs hs Q q => by
  obtain ⟨v, rfl, h⟩ := df1 hs
  cases (show Dq K F v (.dict ps) from h) with
  | @dct a kvs _ hr hk hv =>
    refine ⟨a, kvs, rfl, s.lk _ _ hr, fun p hn => ?_⟩
    have e : DqAll K F (kvs.map fun kv => kV kv.1) (ps.map (·.1)) := by
      rw [hk]
      have := dq_keys (K := K) (F := F) (kvs.map (·.1))
      rwa [List.map_map, List.map_map] at this
    obtain ⟨s2, g2, d2, n2⟩ := s.newL hn e
    exact q _ _ b F _ k s2 g2 d2 n2
theorem paired_len {α β : Type} {P : α → β → Prop} {xs : List α} {ys : List β} (h : Paired P xs ys) : xs.length = ys.length := Paired.length h
theorem dq_tups (s : Sr K B b F H) : ∀ {kvs : List (List Key × V)} {l : List (List Str × PyData)} {qs : List Addr}, kvs.map (·.1) = l.map (fun p => p.1.map Sum.inr) → Paired (fun q p => H q = some (.tup (p.1.map kV))) qs kvs → ∃ F', Sr K B b F' H ∧ Go B F H F' H ∧ DqAll K F' (qs.map V.ref) (l.map fun p => .tuple (p.1.map .str))
  | [], [], _, _, h => by
    cases h
    exact ⟨F, s, Go.refl _ _, .nil⟩
  | [], _ :: _, _, h, _ => by cases h
  | _ :: _, [], _, h, _ => by cases h
  | kv :: kvs, p :: l, _, h, r => by
    rw [List.map_cons, List.map_cons] at h
    injection h with h1 h2
    cases r with
    | @cons q _ qs _ r1 r2 =>
      obtain ⟨F1, s1, g1, d1⟩ := dq_tups s h2 r2
      have e : (p.1.map (Sum.inr (α := Int))).map kV = p.1.map V.str := by
        rw [List.map_map] <;> rfl
      rw [h1, e] at r1
      have one : ∃ F2, Sr K B b F2 H ∧ Go B F1 H F2 H ∧ F2 q = some (.tup (p.1.map V.str)) := by
        cases z : F1 q with
        | none =>
          obtain ⟨s2, g2⟩ := s1.pubT r1 z
          exact ⟨_, s2, g2, upd_same⟩
        | some u =>
          rcases s1.le q u z with y | ⟨_, o, y⟩
          · rw [r1] at y
            cases y
            exact ⟨F1, s1, Go.refl _ _, z⟩
          · rw [r1] at y
            cases y
      obtain ⟨F2, s2, g2, d2⟩ := one
      exact ⟨F2, s2, g1.trans g2, .cons (.tup (.inl d2) (dq_strs p.1)) (d1.up g2.ex)⟩
/-- list(d), keys tuples -/
theorem cd_listTd {l : List (List Str × PyData)} (hul : B.free = true ∧ B.lk = []) (k : R (.own (l.map fun p => .tuple (p.1.map .str))) b) : CallD K B rListT [.mp (IsTD K l)] b R := fun F H s vs hs Q q => by
  obtain ⟨v, rfl, h⟩ := df1 hs
  obtain ⟨a, kvs, rfl, hF, hk, hv⟩ := mp_at h
  refine ⟨a, kvs, rfl, s.unl hul.1 hul.2 hF, fun p qs hn hp => ?_⟩
  obtain ⟨F1, s1, g1, d1⟩ := dq_tups s hk hp
  obtain ⟨s2, g2, d2, n2⟩ := s1.newL hn d1
  exact q _ _ b F1 _ k s2 (g1.trans g2) d2 n2
/-- x.f, of what is told of x -/
theorem me_fld {f : Str} {C : Addr} (h : Me K B ta δ b fun x b1 => ∃ P e, x = .mp P ∧ (∀ F v, P F v → ∃ a dx fs w, v = .ref a ∧ F a = some (.ins C dx fs) ∧ fs.lookup f = some w ∧ Df K B F w e) ∧ R e b1) (hC : Cls K C) (hn : NoAttr K C f) : Me K B (tFld K ta f) δ b R := fun σ F H s Q q =>
  h σ F H s _ fun v x b1 F1 H1 ⟨P, e, e1, hp, r⟩ s1 g1 d1 _ => by
    subst e1
    obtain ⟨a, dx, fs, w, rfl, h2, h3, h4⟩ := hp F1 v (mp_at (K := K) (B := B) d1)
    exact ⟨a, C, dx, fs, w, rfl, s1.exact h2 (fun z => z), hC, hn, h3, q w e b1 F1 H1 r s1 g1 (Dr.of h4) (Nw.no h4.notOwn)⟩
/-- x.m(..) -/
theorem me_methV {m : Str} {C : Addr} {sp : Sp} {XE : XK} {tr : TA} (h : Me K B te δ b fun x b1 => ∃ P, x = .mp P ∧ (∀ F v, P F v → ∃ a dx fs, v = .ref a ∧ F a = some (.ins C dx fs) ∧ fs.lookup m = none) ∧
      MA K B tr δ b1 fun es b2 => CallD K B (fun vs H Q => sp vs H Q XE) (.mp P :: es) b2 R) : Me K B (tMeth C m sp [] XE te tr) δ b R := fun σ F H s Q k =>
  h σ F H s _ fun v x b1 F1 H1 ⟨P, e1, hp, ha⟩ s1 g1 d1 _ => by
    subst e1
    obtain ⟨a, dx, fs, rfl, h2, h3⟩ := hp F1 v (mp_at (K := K) (B := B) d1)
    refine ⟨a, dx, fs, rfl, s1.exact h2 (fun z => z), h3, ?_⟩
    refine ha σ F1 H1 (s.back s1 g1) _ fun vs es b2 F2 H2 h4 s2 g2 d2 => ?_
    rw [List.append_nil]
    exact h4 F2 H2 s2 _ (.cons ((show Df K B F1 (.ref a) (.mp P) from d1).up g2.ex) d2) Q fun v e b3 F3 H3 r3 s3 g3 d3 a3 => k v e b3 F3 H3 r3 s3 ((g1.trans g2).trans g3) d3 (a3.back (g1.trans g2) s2)
end
end Dl
set_option Elab.async false
set_option linter.all false
set_option maxRecDepth 100000
set_option maxHeartbeats 4000000
/-! the data level: walks over the items of a dict with tuple keys -/
namespace Dl
open PySem PySem.Spec PyProof.Rows L2 Evl Gd LamX
section
variable {K : PySem.W.Frag} {B : Base} {F F' H H' : Hp} {v : V} {e : Dv} {δ : Env} {b : Nat} {σ : L2.St} {ds : List PyData} {ta tb te tk tv td ty : TE} {t u : TT} {R : Dv → Nat → Prop} {S : Bool → Nat → Prop} {E : Ed} {D : Ends} {s1 s2 : TS} {g : TG} {o : Obj} {d : Addr}
def tupD (zs : List Str) : PyData := .tuple (zs.map .str)
/-- a tuple that stands is frozen, if it isn't yet -/
theorem Sr.pubT' (s : Sr K B b F H) {q : Addr} {xs : List V} (h : H q = some (.tup xs)) : ∃ F2, Sr K B b F2 H ∧ Go B F H F2 H ∧ F2 q = some (.tup xs) := by
  cases z : F q with
  | none =>
    obtain ⟨s2, g2⟩ := s.pubT h z
    exact ⟨_, s2, g2, upd_same⟩
  | some u =>
    rcases s.le q u z with y | ⟨_, o, y⟩
    · rw [h] at y
      cases y
      exact ⟨F, s, Go.refl _ _, z⟩
    · rw [h] at y
      cases y
theorem WalkD.itemsT {kvs : List (List Key × V)} {l : List (List Str × PyData)} (h : F d = some (.dT kvs)) (hk : kvs.map (·.1) = l.map fun p => p.1.map Sum.inr) (hv : DqAll K F (kvs.map (·.2)) (l.map (·.2))) :
    WalkD K (B.lock d o) F (Itit d o kvs) (l.map fun p => .tuple [tupD p.1, p.2]) := by
  have e : (l.map fun p => PyData.tuple [tupD p.1, p.2]).length = kvs.length := by
    have := congrArg List.length hk
    rw [List.length_map, List.length_map] at this
    rw [List.length_map, this]
  refine ⟨_, _, e ▸ walk_itemsT, fun b2 F2 H2 x s => s.frzd (x _ _ h), fun i v b2 F2 H2 H3 d' x s y hi => ?_⟩
  obtain ⟨T, q, k, w, e1, e2, rfl, hT, rfl⟩ := y
  obtain ⟨p, hp, rfl⟩ := get_map hi
  have k1 : k = p.1.map Sum.inr := by
    have a1 : (kvs.map (·.1))[i]? = some k := by rw [List.getElem?_map, e1] <;> rfl
    have a2 : (l.map fun p => p.1.map (Sum.inr (α := Int)))[i]? = some (p.1.map Sum.inr) := by rw [List.getElem?_map, hp] <;> rfl
    rw [hk, a2] at a1
    exact (Option.some.inj a1).symm
  have ek : k.map kV = p.1.map V.str := by
    rw [k1, List.map_map] <;> rfl
  rw [ek] at e2
  have a3 : (l.map (·.2))[i]? = some p.2 := by rw [List.getElem?_map, hp] <;> rfl
  obtain ⟨w', hw, hd⟩ := hv.get i p.2 a3
  have a4 : (kvs.map (·.2))[i]? = some w := by rw [List.getElem?_map, e1] <;> rfl
  rw [a4] at hw
  cases hw
  obtain ⟨F3, s3, g3, f3⟩ := s.pubT' e2
  obtain ⟨s4, g4, d4⟩ := s3.newT hT (ds := [tupD p.1, p.2]) (.cons (.tup (.inl f3) (dq_strs p.1)) (.cons ((hd.up x).up g3.ex) .nil))
  exact ⟨_, s4, g3.trans g4, d4⟩
/-- td tells a dict with tuple keys, locked or not -/
def DtT (K : PySem.W.Frag) (B : Base) (td : TE) (δ : Env) (b : Nat) (l : List (List Str × PyData)) : Prop := ∀ σ F H, Sd K B δ b σ F H → ∃ d kvs, F d = some (.dT kvs) ∧ H d = some (.dT kvs) ∧ kvs.map (·.1) = l.map (fun p => p.1.map Sum.inr) ∧ DqAll K F (kvs.map (·.2)) (l.map (·.2)) ∧
  ∀ o Q, Q (.ref d) (L2.upd H d (.frz o (.dT kvs))) → td σ (L2.upd H d (.frz o (.dT kvs))) Q
/-- [e for k, v in d.items() if ..] -/
theorem me_filterTd {l : List (List Str × PyData)} {vs : List Nat} {i j : Nat} (hd : DtT K B td δ b l) (hz : l.length ≤ 100000) (p : List Str × PyData → Bool) (f : List Str × PyData → PyData)
      (hp : ∀ d o q, q ∈ l → MT K (B.lock d o) t (setAll (wipeE δ vs) [i, j] [tupD q.1, q.2]) b fun k b2 => k = p q ∧ b2 = b)
      (hf : ∀ d o q, q ∈ l → p q = true → Me K (B.lock d o) te (setAll (wipeE δ vs) [i, j] [tupD q.1, q.2]) b fun y b3 => y.fz = .dat (f q) ∧ b3 = b) (he : R (.own ((l.filter p).map f)) b)
      (hj : ∀ k ∈ [i, j], k ∈ vs := by decide) : Me K B (tLockE (tLc (iItemsT td) (gTup K 2 (gCons (gName i) (gCons (gName j) gNil))) t te vs)) δ b R := fun σ F H s Q k => by
  obtain ⟨d, kvs, hF, hH, hk, hv, ht⟩ := hd σ F H s
  refine lock_e (w := .dT kvs) s True.intro hF hH k fun o Q' k' => ht o _ ⟨d, o, kvs, rfl, upd_same, ?_⟩
  refine lc_st (R := R) (s.lock (w := .dT kvs) True.intro hF hH) (.itemsT hF hk hv) (by rw [List.length_map]; exact hz) (fun i acc b' => acc = ((l.take i).filter p).map f ∧ b' = b) ⟨by simp, rfl⟩ (fun n x acc b' hi ha ⟨q1, q2⟩ σ0 F1 H1 sw v hx Q2 kk => ?_) (fun acc b' ⟨q1, q2⟩ => ?_) k'
  · obtain ⟨q, hq, rfl⟩ := get_map hi
    subst q1 q2
    have hm := List.mem_of_getElem? hq
    cases hx with
    | @tup a ws _ hs hr =>
      refine ⟨a, ws, rfl, lk_t sw.lk (.inl hs), by rw [hr.len] <;> rfl, wipe_gnames [i, j] (ds := [tupD q.1, q.2]) sw hr rfl hj fun σ' s' hw => kk _ _ s' ?_ ((hp d o q hm).mono fun c b2 ⟨z1, z2⟩ => ?_)⟩
      · rw [hw, wipe_idem _ _ _ fun _ h => h]
      · subst z1 z2
        have tk : l.take (n + 1) = l.take n ++ [q] := by rw [List.take_add_one, hq] <;> rfl
        refine ⟨fun c => (hf d o q hm c).mono fun y b3 ⟨z1, z2⟩ => ⟨f q, z1, ?_, z2⟩, fun c => ⟨?_, rfl⟩⟩
        · rw [tk, List.filter_append, List.map_append, List.filter_cons, if_pos c] <;> rfl
        · rw [tk, List.filter_append, List.map_append, List.filter_cons, if_neg (by rw [c]; decide)]
          simp
  · subst q1 q2
    rw [List.length_map, List.take_length]
    exact he
end
end Dl
set_option Elab.async false
set_option linter.all false
set_option maxRecDepth 100000
set_option maxHeartbeats 4000000
namespace K01
open PySem PySem.Spec PyProof.Rows L2 Gd Evl Dl
def clsBody : Stmt → List Stmt
  | .ClassDef _ _ _ b _ _ _ _ _ _ _ => b
  | _ => []
def meth (i : Nat) : Stmt := (clsBody sSchema).getD i (.Pass ⟨0, 0, 0, 0⟩)
abbrev MtP (K : PySem.W.Frag) (i : Nat) (x q : Str) (f : Addr) (fd : FuncData) : Prop := FunD K x q (defArgs (meth i)) (defBody (meth i)) (defScope (meth i)) [] [] f fd
/-- the attributes of a schema -/
def schFs (tb ch sz kd ca fa : Addr) : List (Str × V) := [("_tables", .ref tb), ("_changes", .ref ch), ("_sizes", .ref sz), ("_kinds", .ref kd), ("_column_at", .ref ca), ("_flag_at", .ref fa)]
def chL (p : List Tab) : List (List Str × PyData) := (sortT (kindsS p)).map fun z => (z, .bool true)
def szL (p : List Tab) : List (PyData × PyData) := p.map fun t => (.str t.1, .tuple [.int (t.2.1.length : Int), .int (t.2.2.length : Int)])
def kdT (t : Tab) : List (List Str × PyData) := t.2.1.map fun c => ([t.1, c.1], .str c.2)
def kdL (p : List Tab) : List (List Str × PyData) := p.flatMap kdT
def caT (t : Tab) : List (List Str × PyData) := t.2.1.zipIdx.map fun c => ([t.1, c.1.1], .int (c.2 : Int))
def caL (p : List Tab) : List (List Str × PyData) := p.flatMap caT
def faT (t : Tab) : List (List Str × PyData) := t.2.2.zipIdx.map fun f => ([t.1, f.1], .int (f.2 : Int))
def faL (p : List Tab) : List (List Str × PyData) := p.flatMap faT
def IsSch (K : PySem.W.Frag) (C : Addr) (p : List Tab) : Hp → V → Prop := fun F v => ∃ a dx tb ch sz kd ca fa, v = .ref a ∧ F a = some (.ins C dx (schFs tb ch sz kd ca fa)) ∧ Dq K F (.ref tb) (.dict (p.map planP)) ∧ IsTD K (chL p) F (.ref ch) ∧
  Dq K F (.ref sz) (.dict (szL p)) ∧ IsTD K (kdL p) F (.ref kd) ∧ IsTD K (caL p) F (.ref ca) ∧ IsTD K (faL p) F (.ref fa)
theorem IsSch.up {K : PySem.W.Frag} {C : Addr} {p : List Tab} {F F' : Hp} {v : V} (h : IsSch K C p F v) (x : Ex F F') : IsSch K C p F' v := by
  obtain ⟨a, dx, tb, ch, sz, kd, ca, fa, h1, h2, h3, h4, h5, h6, h7, h8⟩ := h
  exact ⟨a, dx, tb, ch, sz, kd, ca, fa, h1, x _ _ h2, h3.up x, h4.up x, h5.up x, h6.up x, h7.up x, h8.up x⟩
/-- what the class tells -/
structure ScT (K : PySem.W.Frag) (C : Addr) : Prop where
  cls : Cls K C
  no : ∀ f ∈ (["_tables", "_changes", "_sizes", "_kinds", "_column_at", "_flag_at"] : List Str), NoAttr K C f
section
variable {K : PySem.W.Frag} {B : Base} {δ : Dl.Env} {b : Nat} {te : TE} {R : Dv → Nat → Prop} {C : Addr} {p : List Tab} {f : Str}
theorem sch_tables (T : ScT K C) (h : Me K B te δ b fun x b1 => ∃ p, x = .mp (IsSch K C p) ∧ R (.dat (.dict (p.map planP))) b1) : Me K B (tFld K te "_tables") δ b R :=
  me_fld (h.mono fun x b1 ⟨p, e, r⟩ => ⟨_, .dat (.dict (p.map planP)), e, fun F v ⟨a, dx, tb, ch, sz, kd, ca, fa, h1, h2, h3, _⟩ => ⟨a, dx, _, _, h1, h2, rfl, h3⟩, r⟩) T.cls (T.no _ (by decide +kernel))
theorem sch_changes (T : ScT K C) (h : Me K B te δ b fun x b1 => ∃ p, x = .mp (IsSch K C p) ∧ R (.mp (IsTD K (chL p))) b1) : Me K B (tFld K te "_changes") δ b R :=
  me_fld (h.mono fun x b1 ⟨p, e, r⟩ => ⟨_, .mp (IsTD K (chL p)), e, fun F v ⟨a, dx, tb, ch, sz, kd, ca, fa, h1, h2, h3, h4, _⟩ => ⟨a, dx, _, _, h1, h2, rfl, fun F' x => h4.up x⟩, r⟩) T.cls (T.no _ (by decide +kernel))
theorem sch_kinds (T : ScT K C) (h : Me K B te δ b fun x b1 => ∃ p, x = .mp (IsSch K C p) ∧ R (.mp (IsTD K (kdL p))) b1) : Me K B (tFld K te "_kinds") δ b R :=
  me_fld (h.mono fun x b1 ⟨p, e, r⟩ => ⟨_, .mp (IsTD K (kdL p)), e, fun F v ⟨a, dx, tb, ch, sz, kd, ca, fa, h1, h2, h3, h4, h5, h6, _⟩ => ⟨a, dx, _, _, h1, h2, rfl, fun F' x => h6.up x⟩, r⟩) T.cls (T.no _ (by decide +kernel))
end
section
variable {P : Program} {w : World} {K : PySem.W.Frag} {mg : Str → Option Value} {base : Heap} {C f : Addr} {fd : FuncData}
def spTables (K : PySem.W.Frag) (C : Addr) : DSpec := fun es b R _ => ∃ p, es = [.mp (IsSch K C p)] ∧ R (.own (p.map fun t => .str t.1)) b
theorem scTables : FnScope ["self"] ["self"] (defScope (meth 2)) := ⟨rfl, rfl, rfl, by decide +kernel, rfl, by decide +kernel, by decide +kernel⟩
theorem ok_tables (T : ScT K C) (hm : mg "list" = none) (F : MtP K 2 "tables" "Schema.tables" f fd) : FnOk P w K mg base CX0 1 f fd ["self"] (spD K 1 false [] (spTables K C)) := by
  refine F.ok scTables (fun vs H Q E h => spD_len h) (fun cdv A outer s H vs Q E hr h => ⟨_, PSs.nox (pss_one (ps_ret (pe_callTy (call_listD rfl) (by rfl) hm (by decide +kernel) (pa_cons (pe_fld (pv 0) (by rfl)) pa_nil)))), ?_⟩)
  refine spD_enter h (by decide) fun B b es R he hT hu hX hBX ⟨p, e, hR⟩ => ?_
  subst e
  refine mz_ret (me_cb (ma_cons (sch_tables T (me_var ⟨p, rfl, ma_nil (cd_listK ?_)⟩))))
  rw [List.map_map]
  exact hR
def spChangesP (K : PySem.W.Frag) (C : Addr) : DSpec := fun es b R _ => ∃ p, es = [.mp (IsSch K C p)] ∧ R (.own ((sortT (kindsS p)).map tT)) b
theorem scChangesP : FnScope ["self"] ["self"] (defScope (meth 3)) := ⟨rfl, rfl, rfl, by decide +kernel, rfl, by decide +kernel, by decide +kernel⟩
theorem ok_changesP (T : ScT K C) (hm : mg "list" = none) (F : MtP K 3 "changes" "Schema.changes" f fd) : FnOk P w K mg base CX0 1 f fd ["self"] (spD K 1 true [] (spChangesP K C)) := by
  refine F.ok scChangesP (fun vs H Q E h => spD_len h) (fun cdv A outer s H vs Q E hr h => ⟨_, PSs.nox (pss_one (ps_ret (pe_callTy (call_listT rfl) (by rfl) hm (by decide +kernel) (pa_cons (pe_fld (pv 0) (by rfl)) pa_nil)))), ?_⟩)
  refine spD_enter h (by decide) fun B b es R he hT hu hX hBX ⟨p, e, hR⟩ => ?_
  subst e
  refine mz_ret (me_cb (ma_cons (sch_changes T (me_var ⟨p, rfl, ma_nil (cd_listTd (hu rfl) ?_)⟩))))
  have e : (chL p).map (fun q => PyData.tuple (q.1.map .str)) = (sortT (kindsS p)).map tT := by
    unfold chL
    rw [List.map_map] <;> rfl
  rw [e]
  exact hR
/-! errors -/
structure ErT (K : PySem.W.Frag) (mg : Str → Option Value) (x : Str) : Prop where
  g : mg x = some (.ref (He.ga K x))
  q : PySem.W.excIn K (He.ga K x) He.veBase "ValueError.__new__" = true
  kp : PySem.W.keepIn K (.ref (He.ga K x)) = true
  sub : PySem.W.subIn K (.ref (He.ga K x)) (.type "BaseException") = some true
  ty : PySem.W.typeIn K (.ref (He.ga K x)) = some (.type "type")
/-- raise C(..) -/
def tRaise (E : XK) (C : Addr) : TS := fun _ _ H => E (.ref C) none H
theorem mz_raise {B : Base} {δ : Dl.Env} {b : Nat} {E : Ed} {X : XK} {C : Addr} (hX : B.XE = X) (hBX : BX K B) (r : B.RX C b) : Mz K B (tRaise X C) δ b E := fun σ F H s D dd => by
  subst hX
  exact hBX C b F H r s.toSr
theorem ps_raiseD {X : Cx} {x m : Str} {j : Nat} {p p2 pos rpos : Pos} {E : XK} (T : ErT X.K X.mg x) (hc : X.calm = true) (tk : Takes X (fun cls d _ H => E cls d H)) (hg : Gl X x) (hdb : (x == ("__debug__" : Str)) = false := by decide) :
    PS X (.Raise (some (.Call (.Name x p) [.Constant (.str m) j p2] [] pos)) none rpos) (tRaise E (He.ga X.K x)) :=
  ps_raise hc tk (pmk_own PySem.F.excBase_ValueError T.q T.g T.kp (raises_own T.sub T.ty) hg hdb)
/-- whether an object is a table of the plan -/
def isT (p : List Tab) : PyData → Bool
  | .str x => (p.map (·.1)).contains x
  | _ => false
theorem look_plan {p : List Tab} {x : Str} : lookK (p.map planP) (.inr x) = (p.find? fun t => decide (t.1 = x)).map fun t => tabD t.2 := by
  unfold lookK
  rw [List.find?_map, Option.map_map] <;> rfl
theorem find_some {p : List Tab} {x : Str} : (p.find? fun t => decide (t.1 = x)).isSome = (p.map (·.1)).contains x := by
  induction p with
  | nil => rfl
  | cons t r ih =>
    rw [List.find?_cons, List.map_cons, List.contains_cons]
    by_cases e : t.1 = x
    · rw [decide_eq_true e, e]
      simp
    · rw [decide_eq_false e, ih]
      have : (x == t.1) = false := by
        rw [beq_eq_false_iff_ne]
        exact fun z => e z.symm
      rw [this] <;> rfl
theorem look_isSome {p : List Tab} {x : Str} : (lookK (p.map planP) (.inr x)).isSome = isT p (.str x) := by
  rw [look_plan, Option.isSome_map]
  exact find_some
theorem ty_is {d : PyData} (h : tyD d = "str") : ∃ x, d = .str x := by
  cases d with
  | str x => exact ⟨x, rfl⟩
  | none => exact absurd h (by decide)
  | bool _ => exact absurd h (by decide : ¬ "bool" = "str")
  | int _ => exact absurd h (by decide : ¬ "int" = "str")
  | list _ => exact absurd h (by decide : ¬ "list" = "str")
  | tuple _ => exact absurd h (by decide : ¬ "tuple" = "str")
  | dict _ => exact absurd h (by decide : ¬ "dict" = "str")
theorem isT_no {p : List Tab} {d : PyData} (h : ¬ tyD d = "str") : isT p d = false := by
  cases d with
  | str x => exact absurd rfl h
  | _ => rfl
structure McT (K : PySem.W.Frag) (mg : Str → Option Value) : Prop where
  isi : mg "isinstance" = none
  str : mg "str" = none
def spCheckT (K : PySem.W.Frag) (C : Addr) : DSpec := fun es b R RX => ∃ p d, es = [.mp (IsSch K C p), .dat d] ∧ (isT p d = true → R (.dat .none) b) ∧ (isT p d = false → RX (He.ga K "UnknownTable") b)
theorem scCheckT : FnScope ["self", "table"] ["self", "table"] (defScope (meth 6)) := ⟨rfl, rfl, rfl, by decide +kernel, rfl, by decide +kernel, by decide +kernel⟩
theorem ok_checkT (T : ScT K C) (M : McT K mg) (eT : ErT K mg "UnknownTable") (F : MtP K 6 "check_table" "Schema.check_table" f fd) : FnOk P w K mg base (L2.CX P w) 1 f fd ["self", "table"] (spD K 2 false [] (spCheckT K C)) := by
  refine F.ok scCheckT (fun vs H Q E h => spD_len h) (fun cdv A outer s H vs Q E hr h => ⟨_, pss_one (ps_if (PW.pt (pw_or (pt_not (pt_val (pe_callB call_isi (by rfl) M.isi (by decide +kernel) (pa_cons (pv 1) (pa_cons (pe_bltn (v := .ty "str") (by rfl) M.str (by decide +kernel) rfl) pa_nil)))))
      (pw_or1 (pt_cmp (pc_dnotin (hu_of hr) (pv 1) (pe_fld (pv 0) (by rfl))) (by rfl))))) (pss_one (ps_raiseD eT rfl (takes_of rfl rfl rfl rfl) (by rfl))) pss_nil), ?_⟩)
  refine spD_enter h (by decide) fun B b es R he hT hu hX hBX ⟨p, d, e, h1, h2⟩ => ?_
  subst e
  refine mz_if (mt_or (mt_not (mt_B (me_isi (me_var ⟨d, rfl, _, rfl, fun k => ?_, fun k => ⟨fun _ => ?_, fun z => nomatch z⟩⟩)))))
  · obtain ⟨x, rfl⟩ := ty_is (d := d) (by simpa using k)
    refine mt_B (me_dnotin (me_var (sch_tables T (me_var ⟨p, rfl, _, .inr x, rfl, rfl, _, rfl, fun k2 => ?_, fun k2 => ?_⟩))))
    · rw [look_isSome] at k2
      exact mz_raise hX hBX (h2 (by simpa using k2))
    · rw [look_isSome] at k2
      exact mz_next (h1 (by simpa using k2))
  · exact mz_raise hX hBX (h2 (isT_no (by simpa using k)))
/-- self.m(..), which may raise what this def may -/
theorem sch_methX {B : Base} {δ : Dl.Env} {b n : Nat} {te : TE} {tr : TA} {R : Dv → Nat → Prop} {m : Str} {S : DSpec} {ul : Bool} {X : XK} (hX : B.XE = X) (hBX : BX K B) (hu : ul = true → B.free = true ∧ B.lk = []) (hm : ((schFs 0 0 0 0 0 0).lookup m).isNone = true)
    (h : Me K B te δ b fun x b1 => ∃ p, x = .mp (IsSch K C p) ∧ MA K B tr δ b1 fun es b2 => es.length + 1 = n ∧ S (.mp (IsSch K C p) :: es) b2 R B.RX) : Me K B (tMeth C m (spD K n ul [] S) [] X te tr) δ b R := by
  subst hX
  refine me_methV (h.mono fun x b1 ⟨p, e, ha⟩ => ⟨_, e, fun F v ⟨a, dx, tb, ch, sz, kd, ca, fa, h1, h2, _⟩ => ⟨a, dx, _, h1, h2, ?_⟩, fun σ F H s Q k => ha σ F H s Q fun vs es b2 F2 H2 ⟨h1, h2⟩ => k vs es b2 F2 H2 (callD (.inl rfl) hBX h1 hu h2)⟩)
  unfold schFs at hm ⊢
  simp only [List.lookup_cons] at hm ⊢
  revert hm
  repeat' split
  all_goals first | (intro h; cases h; done) | (intro; rfl)
def spColumns (K : PySem.W.Frag) (C : Addr) (g : Tab → PyData) : DSpec := fun es b R RX => ∃ p d, es = [.mp (IsSch K C p), .dat d] ∧ (p.map (·.1)).Nodup ∧ (∀ t ∈ p, d = .str t.1 → R (.dat (g t)) b) ∧ (isT p d = false → RX (He.ga K "UnknownTable") b)
theorem isT_yes {p : List Tab} {d : PyData} (h : isT p d = true) : ∃ t ∈ p, d = .str t.1 ∧ lookK (p.map planP) (.inr t.1) = some (tabD t.2) := by
  cases d with
  | str x =>
    have h' : (p.find? fun t => decide (t.1 = x)).isSome = true := find_some.trans h
    obtain ⟨t, ht⟩ := Option.isSome_iff_exists.mp h'
    have e : t.1 = x := of_decide_eq_true (List.find?_some (p := fun t : Tab => decide (t.1 = x)) ht)
    subst e
    exact ⟨t, List.mem_of_find?_eq_some ht, rfl, by rw [look_plan, ht] <;> rfl⟩
  | _ => cases h
structure SmT (K : PySem.W.Frag) (C : Addr) (fCT : Addr) (fdCT : FuncData) : Prop where
  ct : MtP K 6 "check_table" "Schema.check_table" fCT fdCT
  mct : Meth K C "check_table" fCT
theorem scColumns : FnScope ["self", "table"] ["self", "table"] (defScope (meth 7)) := ⟨rfl, rfl, rfl, by decide +kernel, rfl, by decide +kernel, by decide +kernel⟩
theorem ok_columns {fCT : Addr} {fdCT : FuncData} (T : ScT K C) (M : McT K mg) (eT : ErT K mg "UnknownTable") (Z : SmT K C fCT fdCT) (F : MtP K 7 "columns" "Schema.columns" f fd) : FnOk P w K mg base (L2.CX P w) 2 f fd ["self", "table"] (spD K 2 false [] (spColumns K C fun t => .tuple (t.2.1.map colD))) := by
  have GC : FnOk P w K mg base (L2.CX P w) 1 fCT fdCT ["self", "table"] (spD K 2 false [] (spCheckT K C)) := ok_checkT T M eT Z.ct
  have bC : Binds K fdCT ["self", "table"] [] := Z.ct.bindsN fun _ _ _ _ _ _ us hl => match us, hl with | [_, _], _ => rfl
  refine F.ok scColumns (fun vs H Q E h => spD_len h) (fun cdv A outer s H vs Q E hr h => ⟨_, pss_cons (ps_expr (pe_meth (pv 0) T.cls Z.mct GC hr bC .nil (passes_call (takes_of rfl rfl rfl rfl) (fun _ _ _ _ h => h)) (pa_cons (pv 1) pa_nil)))
    (pss_one (ps_ret (pe_ix ix_tup (pe_dget (hu_of hr) (pe_fld (pv 0) (by rfl)) (pv 1) (fun _ _ => rfl)) pe_int (fun _ _ => rfl)))), ?_⟩)
  refine spD_enter h (by decide) fun B b es R he hT hu hX hBX ⟨p, d, e, nd, h1, h2⟩ => ?_
  subst e
  refine mz_seq (mz_drop (sch_methX hX hBX (fun z => nomatch z) (by decide +kernel) (me_var ⟨p, rfl, ma_cons (me_var (ma_nil ⟨rfl, p, d, rfl, fun k => ?_, h2⟩))⟩)))
  obtain ⟨t, ht, rfl, hl⟩ := isT_yes k
  exact mz_ret (me_op (me_dget (sch_tables T (me_var ⟨p, rfl, me_var ⟨_, .inr t.1, _, rfl, rfl, hl, me_int (opd_ixT rfl (h1 t ht rfl))⟩⟩))))
theorem scFlags : FnScope ["self", "table"] ["self", "table"] (defScope (meth 8)) := ⟨rfl, rfl, rfl, by decide +kernel, rfl, by decide +kernel, by decide +kernel⟩
theorem ok_flags {fCT : Addr} {fdCT : FuncData} (T : ScT K C) (M : McT K mg) (eT : ErT K mg "UnknownTable") (Z : SmT K C fCT fdCT) (F : MtP K 8 "flags" "Schema.flags" f fd) : FnOk P w K mg base (L2.CX P w) 2 f fd ["self", "table"] (spD K 2 false [] (spColumns K C fun t => .tuple (t.2.2.map .str))) := by
  have GC : FnOk P w K mg base (L2.CX P w) 1 fCT fdCT ["self", "table"] (spD K 2 false [] (spCheckT K C)) := ok_checkT T M eT Z.ct
  have bC : Binds K fdCT ["self", "table"] [] := Z.ct.bindsN fun _ _ _ _ _ _ us hl => match us, hl with | [_, _], _ => rfl
  refine F.ok scFlags (fun vs H Q E h => spD_len h) (fun cdv A outer s H vs Q E hr h => ⟨_, pss_cons (ps_expr (pe_meth (pv 0) T.cls Z.mct GC hr bC .nil (passes_call (takes_of rfl rfl rfl rfl) (fun _ _ _ _ h => h)) (pa_cons (pv 1) pa_nil)))
    (pss_one (ps_ret (pe_ix ix_tup (pe_dget (hu_of hr) (pe_fld (pv 0) (by rfl)) (pv 1) (fun _ _ => rfl)) pe_int (fun _ _ => rfl)))), ?_⟩)
  refine spD_enter h (by decide) fun B b es R he hT hu hX hBX ⟨p, d, e, nd, h1, h2⟩ => ?_
  subst e
  refine mz_seq (mz_drop (sch_methX hX hBX (fun z => nomatch z) (by decide +kernel) (me_var ⟨p, rfl, ma_cons (me_var (ma_nil ⟨rfl, p, d, rfl, fun k => ?_, h2⟩))⟩)))
  obtain ⟨t, ht, rfl, hl⟩ := isT_yes k
  exact mz_ret (me_op (me_dget (sch_tables T (me_var ⟨p, rfl, me_var ⟨_, .inr t.1, _, rfl, rfl, hl, me_int (opd_ixT rfl (h1 t ht rfl))⟩⟩))))
/-! columns -/
theorem lookT_app {l m : List (List Str × PyData)} {k : List Str} : lookT (l ++ m) k = (lookT l k).or (lookT m k) := by
  unfold lookT
  rw [List.find?_append]
  cases l.find? fun p => decide (p.1 = k) with
  | none => rfl
  | some x => rfl
theorem look_off {G : Tab → List (List Str × PyData)} (hG : ∀ t, ∀ q ∈ G t, ∃ y, q.1 = [t.1, y]) {t : Tab} {n x : Str} (h : t.1 ≠ n) : lookT (G t) [n, x] = none := by
  unfold lookT
  rw [Option.map_eq_none_iff, List.find?_eq_none]
  intro q hq z
  obtain ⟨y, e⟩ := hG t q hq
  have z' : q.1 = [n, x] := of_decide_eq_true z
  rw [e] at z'
  injection z' with z1 _
  exact h z1
theorem look_offs {G : Tab → List (List Str × PyData)} (hG : ∀ t, ∀ q ∈ G t, ∃ y, q.1 = [t.1, y]) {n x : Str} : ∀ {p : List Tab}, n ∉ p.map (·.1) → lookT (p.flatMap G) [n, x] = none
  | [], _ => rfl
  | t :: r, h => by
    rw [List.map_cons, List.mem_cons, not_or] at h
    rw [List.flatMap_cons, lookT_app, look_off hG (fun z => h.1 z.symm), look_offs hG h.2] <;> rfl
theorem look_flat {G : Tab → List (List Str × PyData)} (hG : ∀ t, ∀ q ∈ G t, ∃ y, q.1 = [t.1, y]) {x : Str} : ∀ {p : List Tab} {t : Tab}, (p.map (·.1)).Nodup → t ∈ p → lookT (p.flatMap G) [t.1, x] = lookT (G t) [t.1, x]
  | [], _, _, h => by cases h
  | a :: r, t, nd, h => by
    rw [List.map_cons, List.nodup_cons] at nd
    rw [List.flatMap_cons, lookT_app]
    rcases List.mem_cons.mp h with rfl | h
    · rw [look_offs hG nd.1, Option.or_none]
    · have ne : a.1 ≠ t.1 := fun z => nd.1 (z ▸ List.mem_map_of_mem h)
      rw [look_off hG ne, look_flat hG nd.2 h] <;> rfl
theorem kdT_key (t : Tab) : ∀ q ∈ kdT t, ∃ y, q.1 = [t.1, y] := fun q hq => by
  obtain ⟨c, _, rfl⟩ := List.mem_map.mp hq
  exact ⟨_, rfl⟩
theorem look_kd {p : List Tab} {t : Tab} {x : Str} (nd : (p.map (·.1)).Nodup) (h : t ∈ p) : lookT (kdL p) [t.1, x] = (t.2.1.find? fun c => decide (c.1 = x)).map fun c => PyData.str c.2 := by
  unfold kdL
  rw [look_flat kdT_key nd h]
  unfold lookT kdT
  rw [List.find?_map, Option.map_map]
  have : ((fun q : List Str × PyData => decide (q.1 = [t.1, x])) ∘ fun c : Str × Str => ([t.1, c.1], PyData.str c.2)) = fun c => decide (c.1 = x) := by
    funext c
    exact decide_eq_decide.mpr ⟨fun z => by
      have z' : [t.1, c.1] = [t.1, x] := z
      simpa using z', fun z => by
      show [t.1, c.1] = [t.1, x]
      rw [z]⟩
  rw [this] <;> rfl
/-- whether an object is a column of a table -/
def isC (t : Tab) : PyData → Bool
  | .str x => (t.2.1.find? fun c => decide (c.1 = x)).isSome
  | _ => false
def spHasC (K : PySem.W.Frag) (C : Addr) : DSpec := fun es b R RX => ∃ p d c, es = [.mp (IsSch K C p), .dat d, .dat c] ∧ (p.map (·.1)).Nodup ∧ (∀ t ∈ p, d = .str t.1 → R (.dat (.bool (isC t c))) b) ∧ (isT p d = false → RX (He.ga K "UnknownTable") b)
theorem scHasC : FnScope ["self", "table", "column"] ["self", "table", "column"] (defScope (meth 12)) := ⟨rfl, rfl, rfl, by decide +kernel, rfl, by decide +kernel, by decide +kernel⟩
theorem ok_hasC {fCT : Addr} {fdCT : FuncData} (T : ScT K C) (M : McT K mg) (eT : ErT K mg "UnknownTable") (Z : SmT K C fCT fdCT) (F : MtP K 12 "has_column" "Schema.has_column" f fd) : FnOk P w K mg base (L2.CX P w) 2 f fd ["self", "table", "column"] (spD K 3 false [] (spHasC K C)) := by
  have GC : FnOk P w K mg base (L2.CX P w) 1 fCT fdCT ["self", "table"] (spD K 2 false [] (spCheckT K C)) := ok_checkT T M eT Z.ct
  have bC : Binds K fdCT ["self", "table"] [] := Z.ct.bindsN fun _ _ _ _ _ _ us hl => match us, hl with | [_, _], _ => rfl
  refine F.ok scHasC (fun vs H Q E h => spD_len h) (fun cdv A outer s H vs Q E hr h => ⟨_, pss_cons (ps_expr (pe_meth (pv 0) T.cls Z.mct GC hr bC .nil (passes_call (takes_of rfl rfl rfl rfl) (fun _ _ _ _ h => h)) (pa_cons (pv 1) pa_nil)))
    (pss_one (ps_ret (pe_and (pe_callB call_isi (by rfl) M.isi (by decide +kernel) (pa_cons (pv 2) (pa_cons (pe_bltn (v := .ty "str") (by rfl) M.str (by decide +kernel) rfl) pa_nil))) (pe_one (pe_cmp (pc_din (hu_of hr) (pe_tup (pa_cons (pv 1) (pa_cons (pv 2) pa_nil))) (pe_fld (pv 0) (by rfl))) (by rfl)))))), ?_⟩)
  refine spD_enter h (by decide) fun B b es R he hT hu hX hBX ⟨p, d, c, e, nd, h1, h2⟩ => ?_
  subst e
  refine mz_seq (mz_drop (sch_methX hX hBX (fun z => nomatch z) (by decide +kernel) (me_var ⟨p, rfl, ma_cons (me_var (ma_nil ⟨rfl, p, d, rfl, fun k => ?_, h2⟩))⟩)))
  obtain ⟨t, ht, rfl, hl⟩ := isT_yes k
  refine mz_ret (me_and (me_isi (me_var ⟨c, rfl, _, rfl, fun k => ?_, fun k => ?_⟩)))
  · obtain ⟨x, rfl⟩ := ty_is (d := c) (by simpa using k)
    refine me_dinT (me_tup (ma_cons (me_var (ma_cons (me_var (ma_nil ⟨_, rfl, le2, sch_kinds T (me_var ⟨p, rfl, _, [t.1, x], rfl, rfl, ?_⟩)⟩))))))
    rw [look_kd nd ht, Option.isSome_map]
    exact h1 t ht rfl
  · have : isC t c = false := by
      cases c with
      | str x => exact absurd k (show ¬ decide ("str" = "str") = false by decide)
      | _ => rfl
    rw [← this]
    exact h1 t ht rfl
structure SnT (K : PySem.W.Frag) (C : Addr) (fCT fHC fCC : Addr) (fdCT fdHC fdCC : FuncData) : Prop where
  s : SmT K C fCT fdCT
  hc : MtP K 12 "has_column" "Schema.has_column" fHC fdHC
  mhc : Meth K C "has_column" fHC
  cc : MtP K 13 "check_column" "Schema.check_column" fCC fdCC
  mcc : Meth K C "check_column" fCC
def spCheckC (K : PySem.W.Frag) (C : Addr) : DSpec := fun es b R RX => ∃ p d c, es = [.mp (IsSch K C p), .dat d, .dat c] ∧ (p.map (·.1)).Nodup ∧ (∀ t ∈ p, d = .str t.1 → (isC t c = true → R (.dat .none) b) ∧ (isC t c = false → RX (He.ga K "UnknownColumn") b)) ∧ (isT p d = false → RX (He.ga K "UnknownTable") b)
theorem scCheckC : FnScope ["self", "table", "column"] ["self", "table", "column"] (defScope (meth 13)) := ⟨rfl, rfl, rfl, by decide +kernel, rfl, by decide +kernel, by decide +kernel⟩
theorem ok_checkC {fCT fHC fCC : Addr} {fdCT fdHC fdCC : FuncData} (T : ScT K C) (M : McT K mg) (eT : ErT K mg "UnknownTable") (eC : ErT K mg "UnknownColumn") (Z : SnT K C fCT fHC fCC fdCT fdHC fdCC) : FnOk P w K mg base (L2.CX P w) 3 fCC fdCC ["self", "table", "column"] (spD K 3 false [] (spCheckC K C)) := by
  have GH : FnOk P w K mg base (L2.CX P w) 2 fHC fdHC ["self", "table", "column"] (spD K 3 false [] (spHasC K C)) := ok_hasC T M eT Z.s Z.hc
  have bH : Binds K fdHC ["self", "table", "column"] [] := Z.hc.bindsN fun _ _ _ _ _ _ us hl => match us, hl with | [_, _, _], _ => rfl
  refine Z.cc.ok scCheckC (fun vs H Q E h => spD_len h) (fun cdv A outer s H vs Q E hr h => ⟨_, pss_one (ps_if (pt_not (pt_val (pe_meth (pv 0) T.cls Z.mhc GH hr bH .nil (passes_call (takes_of rfl rfl rfl rfl) (fun _ _ _ _ h => h)) (pa_cons (pv 1) (pa_cons (pv 2) pa_nil)))))
      (pss_one (ps_raiseD eC rfl (takes_of rfl rfl rfl rfl) (by rfl))) pss_nil), ?_⟩)
  refine spD_enter h (by decide) fun B b es R he hT hu hX hBX ⟨p, d, c, e, nd, h1, h2⟩ => ?_
  subst e
  refine mz_if (mt_not (mt_B (sch_methX hX hBX (fun z => nomatch z) (by decide +kernel) (me_var ⟨p, rfl, ma_cons (me_var (ma_cons (me_var (ma_nil ⟨rfl, p, d, c, rfl, nd, fun t ht e => ⟨_, rfl, fun k => ?_, fun k => ?_⟩, h2⟩))))⟩))))
  · exact mz_raise hX hBX ((h1 t ht e).2 (by simpa using k))
  · exact mz_next ((h1 t ht e).1 (by simpa using k))
def spKindOf (K : PySem.W.Frag) (C : Addr) : DSpec := fun es b R RX => ∃ p d c, es = [.mp (IsSch K C p), .dat d, .dat c] ∧ (p.map (·.1)).Nodup ∧ (∀ t ∈ p, d = .str t.1 → (∀ x y, c = .str x → (t.2.1.find? fun c => decide (c.1 = x)) = some (x, y) → R (.dat (.str y)) b) ∧ (isC t c = false → RX (He.ga K "UnknownColumn") b)) ∧ (isT p d = false → RX (He.ga K "UnknownTable") b)
theorem scKindOf : FnScope ["self", "table", "column"] ["self", "table", "column"] (defScope (meth 15)) := ⟨rfl, rfl, rfl, by decide +kernel, rfl, by decide +kernel, by decide +kernel⟩
theorem isC_yes {t : Tab} {c : PyData} (h : isC t c = true) : ∃ x y, c = .str x ∧ (t.2.1.find? fun c => decide (c.1 = x)) = some (x, y) := by
  cases c with
  | str x =>
    obtain ⟨q, hq⟩ := Option.isSome_iff_exists.mp (show (t.2.1.find? fun c => decide (c.1 = x)).isSome = true from h)
    obtain ⟨a, b⟩ := q
    have e : a = x := of_decide_eq_true (List.find?_some (p := fun c : Str × Str => decide (c.1 = x)) hq)
    subst e
    exact ⟨_, b, rfl, hq⟩
  | _ => cases h
theorem ok_kindOf {fCT fHC fCC : Addr} {fdCT fdHC fdCC : FuncData} (T : ScT K C) (M : McT K mg) (eT : ErT K mg "UnknownTable") (eC : ErT K mg "UnknownColumn") (Z : SnT K C fCT fHC fCC fdCT fdHC fdCC) (F : MtP K 15 "kind_of" "Schema.kind_of" f fd) : FnOk P w K mg base (L2.CX P w) 4 f fd ["self", "table", "column"] (spD K 3 false [] (spKindOf K C)) := by
  have GC : FnOk P w K mg base (L2.CX P w) 3 fCC fdCC ["self", "table", "column"] (spD K 3 false [] (spCheckC K C)) := ok_checkC T M eT eC Z
  have bC : Binds K fdCC ["self", "table", "column"] [] := Z.cc.bindsN fun _ _ _ _ _ _ us hl => match us, hl with | [_, _, _], _ => rfl
  refine F.ok scKindOf (fun vs H Q E h => spD_len h) (fun cdv A outer s H vs Q E hr h => ⟨_, pss_cons (ps_expr (pe_meth (pv 0) T.cls Z.mcc GC hr bC .nil (passes_call (takes_of rfl rfl rfl rfl) (fun _ _ _ _ h => h)) (pa_cons (pv 1) (pa_cons (pv 2) pa_nil))))
    (pss_one (ps_ret (pe_dget (hu_of hr) (pe_fld (pv 0) (by rfl)) (pe_tup (pa_cons (pv 1) (pa_cons (pv 2) pa_nil))) (fun _ _ => rfl)))), ?_⟩)
  refine spD_enter h (by decide) fun B b es R he hT hu hX hBX ⟨p, d, c, e, nd, h1, h2⟩ => ?_
  subst e
  refine mz_seq (mz_drop (sch_methX hX hBX (fun z => nomatch z) (by decide +kernel) (me_var ⟨p, rfl, ma_cons (me_var (ma_cons (me_var (ma_nil ⟨rfl, p, d, c, rfl, nd, fun t ht e => ⟨fun k => ?_, (h1 t ht e).2⟩, h2⟩))))⟩)))
  subst e
  obtain ⟨x, y, rfl, hf⟩ := isC_yes k
  refine mz_ret (me_dgetT (sch_kinds T (me_var ⟨p, rfl, me_tup (ma_cons (me_var (ma_cons (me_var (ma_nil ⟨_, rfl, le2, _, [t.1, x], _, rfl, rfl, ?_, (h1 t ht rfl).1 x y rfl hf⟩)))))⟩)))
  rw [look_kd nd ht, hf] <;> rfl
end
end K01
set_option Elab.async false
set_option linter.all false
set_option maxRecDepth 100000
set_option maxHeartbeats 4000000
namespace K01
open PySem PySem.Spec PyProof.Rows L2 Gd Evl Dl
section
variable {P : Program} {w : World} {K : PySem.W.Frag} {mg : Str → Option Value} {base : Heap} {C f : Addr} {fd : FuncData}
theorem hu70_of {A : Around} {k : Nat} (hr : Room k A) : A.units + 70 < cLine := by
  have := hr.un
  omega
theorem dt_kinds {B : Base} {δ : Dl.Env} {b i : Nat} {p : List Tab} (T : ScT K C) (hu : B.free = true ∧ B.lk = []) (h : δ[i]? = some (some (.mp (IsSch K C p)))) : DtT K B (tFld K (tVar i) "_kinds") δ b (kdL p) := fun σ F H s => by
  obtain ⟨v, h1, h2⟩ := s.get h
  obtain ⟨a, dx, tb, ch, sz, kd, ca, fa, rfl, hF, _, _, _, ⟨d, kvs, e1, e2, e3, e4⟩, _⟩ := mp_at (K := K) (B := B) h2
  cases e1
  have hH := s.toSr.exact hF (fun z => z)
  have hD := s.toSr.unl hu.1 hu.2 e2
  refine ⟨kd, kvs, e2, hD, e3, e4, fun o Q q => ⟨_, h1, a, C, dx, schFs tb ch sz kd ca fa, .ref kd, rfl, ?_, T.cls, T.no _ (by decide +kernel), rfl, q⟩⟩
  have e : a ≠ kd := fun z => by
    rw [z, hD] at hH
    cases hH
  rw [upd_ne e]
  exact hH
def placesS (p : List Tab) (d : PyData) : List (List Str) := ((kdL p).filter fun q => PyData.eqv q.2 d).map (·.1)
def spPlaces (K : PySem.W.Frag) (C : Addr) : DSpec := fun es b R _ => ∃ p d, es = [.mp (IsSch K C p), .dat d] ∧ (kdL p).length ≤ 100000 ∧ (∀ q ∈ kdL p, EqOk q.2 d = true) ∧ R (.own ((sortT (placesS p d)).map tT)) b
abbrev NPl : List Str := ["self", "kind", "place", "own"]
theorem scPlaces : FnScope NPl ["self", "kind"] (defScope (meth 18)) := ⟨rfl, rfl, rfl, by decide +kernel, rfl, by decide +kernel, by decide +kernel⟩
theorem kdL_str {p : List Tab} : ∀ q ∈ kdL p, ∃ x y, q.1 = [x, y] ∧ ∃ z, q.2 = .str z := fun q hq => by
  obtain ⟨t, _, ht⟩ := List.mem_flatMap.mp hq
  obtain ⟨c, _, rfl⟩ := List.mem_map.mp ht
  exact ⟨_, _, rfl, _, rfl⟩
theorem placesS_map {p : List Tab} {d : PyData} : ((kdL p).filter fun q => PyData.eqv q.2 d).map (fun q => tT q.1) = (placesS p d).map tT := by
  unfold placesS
  rw [List.map_map] <;> rfl
theorem ok_places (T : ScT K C) (hS : SysD K) (hm : mg "sorted" = none) (F : MtP K 18 "places" "Schema.places" f fd) : FnOk P w K mg base CX0 1 f fd ["self", "kind"] (spD K 2 true [] (spPlaces K C)) := by
  refine F.ok scPlaces (fun vs H Q E h => spD_len h) (fun cdv A outer s H vs Q E hr h => ⟨_, PSs.nox (pss_one (ps_ret (pe_callB (cr_sortedDt hr.units hS) (by rfl) hm (by decide +kernel) (pa_cons (pe_lock (pe_lc (own := [("place", 2), ("own", 3)]) (g := gTup K 2 (gCons (gName 2) (gCons (gName 3) gNil))) rfl scPlaces.nd (pi_itemsT (pe_fld (pv 0) (by rfl))) (blkOk_by (N := NPl) (sc := defScope (meth 18)) (by decide +kernel))
    (fun _ _ _ _ _ => pg_tup rfl (pgs_cons (pg_name (i := 2) scPlaces.nd rfl (Or.inl rfl)) (pgs_cons (pg_name (i := 3) scPlaces.nd rfl (Or.inl rfl)) pgs_nil))) (fun _ _ _ _ _ => pts_one (pt_cmpR (r := rEqQ K) (by exact op_eqQ (hu70_of hr) hS) (pv 3) (pv 1) (nomark _))) (fun _ _ _ _ _ => pv 2))) pa_nil)))), ?_⟩)
  refine spD_enter h (by decide) fun B b es R he hT hu hX hBX ⟨p, d, e, hz, hq, hR⟩ => ?_
  subst e
  refine mz_ret (me_cb (ma_cons (me_filterTd (dt_kinds T (hu rfl) rfl) hz (fun q => PyData.eqv q.2 d) (fun q => tT q.1) (fun a o q hm => ?_) (fun a o q hm _ => me_var ⟨rfl, rfl⟩) (ma_nil (cd_sortD (b := b) ?_ ?_ ?_ ?_)))))
  · obtain ⟨x, y, e1, z, e2⟩ := kdL_str q hm
    refine mt_test (me_op (me_var (me_var ?_)))
    refine opd_eqQ (d1 := q.2) (d2 := d) ?_ ⟨_, rfl, rfl, rfl⟩
    exact hq q hm
  · rw [placesS_map]
    exact alike_tT _
  · rw [placesS_map]
    refine sortable_tT fun z hz' => ?_
    obtain ⟨q, hq', rfl⟩ := List.mem_map.mp hz'
    obtain ⟨x, y, e1, _⟩ := kdL_str q (List.mem_filter.mp hq').1
    rw [e1]
    exact fun z => nomatch z
  · intro d' hd'
    obtain ⟨q, _, rfl⟩ := List.mem_map.mp hd'
    exact depth_tT _
  · rw [placesS_map, sortD_tT]
    exact hR
end
end K01
set_option Elab.async false
set_option linter.all false
set_option maxRecDepth 100000
set_option maxHeartbeats 4000000
namespace Dl
open PySem PySem.Spec PyProof.Rows L2 Evl Gd LamX
section
variable {K : PySem.W.Frag} {B : Base} {δ : Env} {b : Nat} {te : TE}
def kd (p : Key × PyData) : PyData × PyData := (keyD p.1, p.2)
theorem kds_of {F : Hp} : ∀ {kvs : List (Key × V)} {as : List (Key × PyData)}, (as.map kd).map (·.1) = kvs.map (fun p => keyD p.1) → DqAll K F (kvs.map (·.2)) ((as.map kd).map (·.2)) → KDs K F kvs as
  | [], [], _, _ => ⟨rfl, .nil⟩
  | [], _ :: _, h, _ => by cases h
  | _ :: _, [], h, _ => by cases h
  | kv :: kvs, a :: as, h, r => by
    rw [List.map_cons, List.map_cons, List.map_cons] at h
    injection h with h1 h2
    rw [List.map_cons, List.map_cons, List.map_cons] at r
    cases r with
    | cons r1 r2 =>
      obtain ⟨i1, i2⟩ := kds_of h2 r2
      have e : kv.1 = a.1 := by
        have := keyIs_key a.1 kv.1
        rw [show keyD a.1 = keyD kv.1 from h1, keyIs_key, decide_eq_true rfl] at this
        exact (of_decide_eq_true this.symm).symm
      exact ⟨by rw [List.map_cons, List.map_cons, i1, e], .cons r1 i2⟩
/-- dict == dict -/
theorem opd_eqKD {as bs : List (Key × PyData)} {R : Dv → Prop} (h1 : ∀ p ∈ as, SeqAt.shaped p.2 = true) (h2 : ∀ p ∈ bs, SeqAt.shaped p.2 = true) (k : R (.dat (.bool (eqK as bs)))) : OpD K B (rEqKD K) (.dat (.dict (as.map kd))) (.dat (.dict (bs.map kd))) R := opd_pure (d := .bool (eqK as bs)) (fun F H vx vy Q ⟨b, s⟩ hx hy q => by
  cases (show Dq K F vx (.dict (as.map kd)) from hx) with
  | @dct a kvs _ hr hk hv =>
    cases (show Dq K F vy (.dict (bs.map kd)) from hy) with
    | @dct a2 kvs2 _ hr2 hk2 hv2 =>
      obtain ⟨i1, i2⟩ := kds_of hk hv
      obtain ⟨j1, j2⟩ := kds_of hk2 hv2
      exact ⟨a, a2, kvs, kvs2, as, bs, rfl, rfl, s.lk _ _ hr, s.lk _ _ hr2, ⟨i1, s.dqs i2⟩, ⟨j1, s.dqs j2⟩, h1, h2, q _ (.bl _)⟩) k
/-- what an instance's class tells -/
structure CiT (K : PySem.W.Frag) (C : Addr) : Prop where
  cls : Cls K C
  ha : PySem.W.findIn K (.ref C) "__class__" = some (some (.builtin "object.__class__"))
  hn : PySem.W.specialIn K (.builtin "object.__class__") "__get__" = some (some (.builtin "getset_descriptor.__get__"))
  htk : PySem.W.takesIn K (.builtin "object.__class__") = some true
  hm : PySem.W.mroIn K C (.type "object") = some true
  kit : ∀ t ∈ tysD, PySem.W.kitOne K (.type t) (.ref C) = some false
/-- isinstance(x, C) -/
theorem me_isiC {C : Addr} {R : Dv → Nat → Prop} (T : CiT K C) (h : Me K B te δ b fun x b1 => (∃ d, x.fz = .dat d ∧ R (.dat (.bool false)) b1) ∨ (∃ P, x.fz = .mp P ∧ (∀ F v, P F v → ∃ a dx fs, v = .ref a ∧ F a = some (.ins C dx fs)) ∧ R (.dat (.bool true)) b1)) :
    Me K B (tCB (rIsi K) (tCons te (tCons (tC (.ref C)) tNil))) δ b R :=
  me_cb (ma_cons (h.mono fun x b1 h1 => ma_cons (me_mp (P := fun _ v => v = .ref C) (fun _ => rfl) (ma_nil (fun F H s vs hs Q q => by
    obtain ⟨v, w, rfl, d1, d2⟩ := df2 hs
    have e := mp_at (K := K) (B := B) d2
    subst e
    rcases h1 with ⟨d, e1, r⟩ | ⟨P, e1, hp, r⟩
    · rw [e1] at d1
      exact ⟨v, .ref C, .type (tyD d), .ref C, false, rfl, .own C, (s.dq (show Dq K F v d from d1)).ty, T.kit _ (tyD_mem d), q _ _ b1 F H r s (Go.refl F H) (.bl false) (Nw.no rfl)⟩
    · rw [e1] at d1
      obtain ⟨a, dx, fs, rfl, hF⟩ := hp F v (mp_at (K := K) (B := B) d1)
      refine ⟨.ref a, .ref C, .ref C, .ref C, true, rfl, .own C, .base (.ins (s.exact hF (fun z => z)) T.cls T.ha T.hn T.htk T.hm), ?_, q _ _ b1 F H r s (Go.refl F H) (.bl true) (Nw.no rfl)⟩
      unfold PySem.W.kitOne
      rw [if_pos (beq_self_eq_true _)])))))
end
end Dl
namespace K01
open PySem PySem.Spec PyProof.Rows L2 Gd Evl Dl
section
variable {P : Program} {w : World} {K : PySem.W.Frag} {mg : Str → Option Value} {base : Heap} {C f : Addr} {fd : FuncData}
def planK (t : Tab) : Key × PyData := (.inr t.1, tabD t.2)
def spEqS (K : PySem.W.Frag) (C : Addr) : DSpec := fun es b R _ => (∃ p q, es = [.mp (IsSch K C p), .mp (IsSch K C q)] ∧ (∀ t ∈ p, SeqAt.shaped (tabD t.2) = true) ∧ (∀ t ∈ q, SeqAt.shaped (tabD t.2) = true) ∧ R (.dat (.bool (eqK (p.map planK) (q.map planK)))) b) ∨ ∃ p d, es = [.mp (IsSch K C p), .dat d] ∧ R (.dat (.bool false)) b
theorem scEqS : FnScope ["self", "other"] ["self", "other"] (defScope (meth 1)) := ⟨rfl, rfl, rfl, by decide +kernel, rfl, by decide +kernel, by decide +kernel⟩
theorem ok_eqS (T : ScT K C) (I : CiT K C) (M : McT K mg) (hS : SysD K) (hC : mg "Schema" = some (.ref C)) (kC : PySem.W.keepIn K (.ref C) = true) (F : MtP K 1 "__eq__" "Schema.__eq__" f fd) : FnOk P w K mg base CX0 1 f fd ["self", "other"] (spD K 2 false [] (spEqS K C)) := by
  refine F.ok scEqS (fun vs H Q E h => spD_len h) (fun cdv A outer s H vs Q E hr h => ⟨_, PSs.nox (pss_one (ps_ret (pe_and (pe_callB call_isi (by rfl) M.isi (by decide +kernel) (pa_cons (pv 1) (pa_cons (pe_glob (v := .ref C) rfl hC rfl) pa_nil)))
    (pe_one (pe_cmpR (op_eqKD (hu70_of hr) hS) (pe_fld (pv 0) (by rfl)) (pe_fld (pv 1) (by rfl)) (nomark _)))))), ?_⟩)
  refine spD_enter h (by decide) fun B b es R he hT hu hX hBX hh => ?_
  have pk : ∀ p : List Tab, p.map planP = (p.map planK).map kd := fun p => by
    rw [List.map_map] <;> rfl
  have sh : ∀ p : List Tab, (∀ t ∈ p, SeqAt.shaped (tabD t.2) = true) → ∀ x ∈ p.map planK, SeqAt.shaped x.2 = true := fun p h x hx => by
    obtain ⟨t, ht, rfl⟩ := List.mem_map.mp hx
    exact h t ht
  rcases hh with ⟨p, q, e, s1, s2, hR⟩ | ⟨p, d, e, hR⟩
  · subst e
    refine mz_ret (me_and (me_isiC I (me_var (.inr ?_))))
    refine ⟨IsSch K C q, rfl, fun F v ⟨a, dx, tb, ch, sz, kd, ca, fa, h1, h2, _⟩ => ⟨a, dx, _, h1, h2⟩, true, rfl, fun _ => ?_, fun z => nomatch z⟩
    refine me_op (sch_tables T (me_var ⟨p, rfl, sch_tables T (me_var ⟨q, rfl, ?_⟩)⟩))
    rw [pk, pk]
    exact opd_eqKD (sh p s1) (sh q s2) hR
  · subst e
    refine mz_ret (me_and (me_isiC I (me_var (.inl ?_))))
    exact ⟨d, rfl, false, rfl, fun z => (nomatch z), fun _ => hR⟩
end
end K01
set_option Elab.async false
set_option linter.all false
set_option maxRecDepth 100000
set_option maxHeartbeats 4000000
/-! the data level: a thing under construction -/
namespace Dl
open PySem PySem.Spec PyProof.Rows L2 Evl Gd LamX
/-- data never lead through it -/
def Iso : HO → Prop
  | .ins _ _ _ => True
  | .dT _ => True
  | _ => False
section
variable {K : PySem.W.Frag} {B : Base} {F F' H H' : Hp} {v : V} {e : Dv} {δ : Env} {b : Nat} {σ : L2.St} {x : Addr} {u u' : HO}
theorem Iso.code {w : HO} {c : Addr} {q : Str} (hw : Iso w) : w ≠ CodeO c q := fun z => by
  unfold CodeO at z
  subst z
  exact hw
theorem rd_re (hF : F x = some u) (hu : Iso u) {a : Addr} {w : HO} (hw : ¬ Iso w) (h : Rd F a w) : Rd (L2.upd F x u') a w := by
  have ne : a ≠ x := by
    rintro rfl
    rcases h with h | ⟨o, h⟩
    · rw [hF] at h
      cases h
      exact hw hu
    · rw [hF] at h
      cases h
      exact hu
  rcases h with h | ⟨o, h⟩
  · exact .inl (by rw [upd_ne ne]; exact h)
  · exact .inr ⟨o, by rw [upd_ne ne]; exact h⟩
theorem sql_re (hF : F x = some u) (hu : Iso u) {a : Addr} {xs : List V} (h : SqL K F a xs) : SqL K (L2.upd F x u') a xs := h.elim (fun h => .inl (rd_re hF hu (fun z => z) h)) .inr
mutual
theorem dq_re (hF : F x = some u) (hu : Iso u) : ∀ (d : PyData) (v : V), Dq K F v d → Dq K (L2.upd F x u') v d
  | .none, _, h => by
    cases h
    exact .non
  | .bool _, _, h => by
    cases h
    exact .bl _
  | .int _, _, h => by
    cases h
    exact .int _
  | .str _, _, h => by
    cases h
    exact .str _
  | .list ds, _, h => by
    cases h with
    | lst hs r => exact .lst (rd_re hF hu (fun z => z) hs) (dqAll_re hF hu ds _ r)
  | .tuple ds, _, h => by
    cases h with
    | tup hs r => exact .tup (rd_re hF hu (fun z => z) hs) (dqAll_re hF hu ds _ r)
  | .dict ds, _, h => by
    cases h with
    | dct hs k r => exact .dct (rd_re hF hu (fun z => z) hs) k (dqKv_re hF hu ds _ r)
theorem dqAll_re (hF : F x = some u) (hu : Iso u) : ∀ (ds : List PyData) (vs : List V), DqAll K F vs ds → DqAll K (L2.upd F x u') vs ds
  | [], _, h => by
    cases h
    exact .nil
  | d :: ds, _, h => by
    cases h with
    | cons h1 h2 => exact .cons (dq_re hF hu d _ h1) (dqAll_re hF hu ds _ h2)
theorem dqKv_re (hF : F x = some u) (hu : Iso u) : ∀ (ds : List (PyData × PyData)) (vs : List V), DqAll K F vs (ds.map (·.2)) → DqAll K (L2.upd F x u') vs (ds.map (·.2))
  | [], _, h => by
    cases h
    exact .nil
  | (_, d) :: ds, _, h => by
    cases h with
    | cons h1 h2 => exact .cons (dq_re hF hu d _ h1) (dqKv_re hF hu ds _ h2)
end
theorem Sr.rewrite (s : Sr K B b F H) (hF : F x = some u) (hu : Iso u) (hu' : Iso u') (hH : H x = some u) (h0 : B.H0 x = none) (f0 : B.F0 x = none) : Sr K B b (L2.upd F x u') (L2.upd H x u') := by
  refine { le := fun a w h => ?_, nfz := fun a o w h => ?_, ntb := fun a w h => ?_, ex0 := fun a w h => ?_, fr := fun a o h n l => ?_, dom := fun a h => ?_, frN := fun a h1 h2 => ?_, free := fun f a w h l => ?_, lkd := fun p hp => ?_, tabs := fun p hp => ?_, tb0 := fun p hp => ?_, pen := fun p a ns h => ?_ }
  · by_cases e : a = x
    · subst e
      rw [upd_same] at h
      cases h
      exact .inl upd_same
    · rw [upd_ne e] at h
      rw [upd_ne e]
      exact s.le a w h
  · by_cases e : a = x
    · subst e
      rw [upd_same] at h
      cases h
      exact hu'.elim
    · rw [upd_ne e] at h
      exact s.nfz a o w h
  · by_cases e : a = x
    · subst e
      rw [upd_same] at h
      cases h
      exact hu'
    · rw [upd_ne e] at h
      exact s.ntb a w h
  · have e : a ≠ x := fun e => by rw [e, f0] at h; cases h
    rw [upd_ne e]
    exact s.ex0 a w h
  · have e : a ≠ x := fun e => by rw [e, h0] at h; cases h
    rw [upd_ne e]
    exact s.fr a o h n l
  · have e : a ≠ x := fun e => h (by rw [e, h0])
    rw [upd_ne e]
    exact s.dom a h
  · have e : a ≠ x := fun e => h1 (by rw [e, h0])
    rw [upd_ne e]
    exact s.frN a h1 h2
  · by_cases e : a = x
    · subst e
      rw [upd_same] at h
      cases h
      exact upd_same
    · rw [upd_ne e] at h
      rw [upd_ne e]
      exact s.free f a w h l
  · obtain ⟨w, h2, h3, h4⟩ := s.lkd p hp
    have e : p.1 ≠ x := fun e => by
      rw [e, hH] at h3
      cases h3
      exact hu
    exact ⟨w, h2, by rw [upd_ne e]; exact h3, by rw [upd_ne e]; exact h4⟩
  · obtain ⟨ps, t1, t2, t3⟩ := s.tabs p hp
    have e : p.1 ≠ x := fun e => by
      rw [e, hH] at t1
      cases t1
      exact hu
    refine ⟨ps, by rw [upd_ne e]; exact t1, t2, fun pos cv hc => ?_⟩
    obtain ⟨c, c1, c2⟩ := t3 pos cv hc
    have e2 : c ≠ x := fun e => by
      rw [e, hH] at c2
      exact hu.code (Option.some.inj c2)
    exact ⟨c, c1, by rw [upd_ne e2]; exact c2⟩
  · obtain ⟨h1, h2⟩ := s.tb0 p hp
    have e : p.1 ≠ x := fun e => by
      rw [e, hF] at h2
      cases h2
    exact ⟨h1, by rw [upd_ne e]; exact h2⟩
  · obtain ⟨h1, h2, h3, h4, i, d, h5, h6⟩ := s.pen p a ns h
    have e : p ≠ x := fun e => by
      rw [e, hF] at h2
      cases h2
    have e2 : a ≠ x := fun e => by
      rw [e, hF] at h3
      cases h3
      exact hu
    exact ⟨h1, by rw [upd_ne e]; exact h2, by rw [upd_ne e2]; exact h3, h4, i, d, by rw [upd_ne e]; exact h5, h6⟩
theorem IsTD.re {l : List (List Str × PyData)} {a : Addr} (hF : F x = some u) (hu : Iso u) (ne : a ≠ x) (h : IsTD K l F (.ref a)) : IsTD K l (L2.upd F x u') (.ref a) := by
  obtain ⟨a', kvs, e, h2, h3, h4⟩ := h
  cases e
  exact ⟨a, kvs, rfl, by rw [upd_ne ne]; exact h2, h3, dqAll_re hF hu _ _ h4⟩
/-- slots at a body's start -/
theorem Sd.start {N : List Str} {vs : List V} {es : List Dv} (s : Sr K B b F H) (h8 : DfAll K B F vs es) (hl : es.length ≤ N.length) : Sd K B (es.map some ++ List.replicate (N.length - es.length) none) b (L2.start N vs) F H := by
  have hl' := h8.1
  have own : ∀ (i : Nat) (e : Dv), (es.map some ++ List.replicate (N.length - es.length) none)[i]? = some (some e) → es[i]? = some e := fun i e q => by
    by_cases hi : i < (es.map some).length
    · rw [List.getElem?_append_left hi, List.getElem?_map] at q
      cases z : es[i]? with
      | none =>
        rw [z] at q
        cases q
      | some e' =>
        rw [z] at q
        cases q
        rfl
    · rw [List.getElem?_append_right (by omega)] at q
      rw [List.getElem?_replicate] at q
      split at q <;> cases q
  refine ⟨s, ?_, fun i e q => ?_, fun i j ei ej v ne q1 q2 o1 o2 => ?_⟩
  · unfold L2.start
    rw [List.length_append, List.length_append, List.length_map, List.length_map, List.length_replicate, List.length_replicate]
    omega
  · have q' := own i e q
    have hi : i < vs.length := by
      have := (List.getElem?_eq_some_iff.mp q').1
      omega
    refine ⟨vs[i], ?_, Dr.of (h8.2 i vs[i] e (List.getElem?_eq_getElem hi) q')⟩
    unfold L2.start
    rw [List.getElem?_append_left (by rw [List.length_map]; exact hi), List.getElem?_map, List.getElem?_eq_getElem hi] <;> rfl
  · have q' := own i ei q1
    have hi : i < vs.length := by
      have := (List.getElem?_eq_some_iff.mp q').1
      omega
    have := (h8.2 i vs[i] ei (List.getElem?_eq_getElem hi) q').notOwn
    rw [this] at o1
    cases o1
theorem DfAll.nil : DfAll K B F [] [] := ⟨rfl, fun i v e h => by simp at h⟩
end
end Dl
set_option Elab.async false
set_option linter.all false
set_option maxRecDepth 100000
set_option maxHeartbeats 4000000
/-! the tables of a schema, sorted; kinds that are all different -/
namespace K01
open PySem PySem.Spec PyProof.Rows L2 Gd Evl Dl
theorem sortP_perm (p : List Tab) : (sortP p).Perm p := List.mergeSort_perm ..
theorem sortP_names (p : List Tab) : (sortP p).map (·.1) = sortS (p.map (·.1)) := by
  unfold sortP sortS
  exact List.map_mergeSort (r := leP) (s := leS) (f := fun t : Tab => t.1) fun a _ b _ => rfl
theorem PlanOk.perm {p q : List Tab} (h : PlanOk p) (e : q.Perm p) : PlanOk q where
  n1 := e.length_eq ▸ h.n1
  n4 := e.length_eq ▸ h.n4
  tb := fun t ht => h.tb t (e.mem_iff.mp ht)
  nd := (e.map (·.1)).nodup_iff.mpr h.nd
theorem kindsT_2 {t : Tab} {z : List Str} (h : z ∈ kindsT t) : z[1]? = some t.1 := by
  unfold kindsT kindsF at h
  simp only [List.mem_flatMap, List.mem_cons, List.not_mem_nil, or_false] at h
  rcases h with h | h | ⟨f, _, h | h⟩ <;> rw [h] <;> rfl
theorem kindsF_nd {t : Str} : ∀ {fs : List Str}, fs.Nodup → (kindsF t fs).Nodup
  | [], _ => List.Pairwise.nil
  | f :: r, h => by
    rw [List.nodup_cons] at h
    have ih := kindsF_nd (t := t) h.2
    have sep : ∀ (a : Str) , ([a, t, f] : List Str) ∉ kindsF t r := fun a z => by
      unfold kindsF at z
      simp only [List.mem_flatMap, List.mem_cons, List.not_mem_nil, or_false] at z
      obtain ⟨g, hg, z | z⟩ := z
      · injection z with _ z
        injection z with _ z
        injection z with z _
        exact h.1 (z ▸ hg)
      · injection z with _ z
        injection z with _ z
        injection z with z _
        exact h.1 (z ▸ hg)
    show ((["off", t, f] : List Str) :: (["on", t, f] : List Str) :: kindsF t r).Nodup
    rw [List.nodup_cons, List.nodup_cons, List.mem_cons, not_or]
    refine ⟨⟨fun z => ?_, sep "off"⟩, sep "on", ih⟩
    injection z with z _
    exact absurd z (by decide +kernel)
theorem kindsT_nd {t : Tab} (h : TabOk t) : (kindsT t).Nodup := by
  unfold kindsT
  rw [List.nodup_cons, List.nodup_cons, List.mem_cons, not_or]
  have sep : ∀ a : Str, ([a, t.1] : List Str) ∉ kindsF t.1 t.2.2 := fun a z => by
    unfold kindsF at z
    simp only [List.mem_flatMap, List.mem_cons, List.not_mem_nil, or_false] at z
    obtain ⟨g, hg, z | z⟩ := z <;> (injection z with _ z; injection z with _ z; cases z)
  refine ⟨⟨fun z => ?_, sep _⟩, sep _, kindsF_nd (List.nodup_append.mp h.nd).2.1⟩
  injection z with z _
  exact absurd z (by decide +kernel)
theorem flat_nd {α β : Type} {f : α → List β} {g : β → Option Str} {n : α → Str} : ∀ {l : List α}, (l.map n).Nodup → (∀ a ∈ l, (f a).Nodup) → (∀ a ∈ l, ∀ b ∈ f a, g b = some (n a)) → (l.flatMap f).Nodup
  | [], _, _, _ => List.Pairwise.nil
  | a :: r, nd, h1, h2 => by
    rw [List.map_cons, List.nodup_cons] at nd
    rw [List.flatMap_cons, List.nodup_append]
    refine ⟨h1 a List.mem_cons_self, flat_nd nd.2 (fun b hb => h1 b (List.mem_cons_of_mem _ hb)) fun b hb => h2 b (List.mem_cons_of_mem _ hb), fun x hx y hy e => ?_⟩
    subst e
    obtain ⟨b, hb, hxb⟩ := List.mem_flatMap.mp hy
    have q1 := h2 a List.mem_cons_self x hx
    have q2 := h2 b (List.mem_cons_of_mem _ hb) x hxb
    rw [q1] at q2
    exact nd.1 (Option.some.inj q2 ▸ List.mem_map_of_mem hb)
theorem kindsS_nd {p : List Tab} (h : PlanOk p) : (kindsS p).Nodup := flat_nd (n := fun t : Tab => t.1) (g := fun z => z[1]?) h.nd (fun t ht => kindsT_nd (h.tb t ht)) fun t _ z hz => kindsT_2 hz
theorem chL_keys (p : List Tab) : (chL p).map (·.1) = sortT (kindsS p) := by
  unfold chL
  rw [List.map_map]
  exact List.map_id' _
theorem chL_nd {p : List Tab} (h : PlanOk p) : ((chL p).map (·.1)).Nodup := by
  rw [chL_keys]
  exact (sortT_perm _).nodup_iff.mpr (kindsS_nd h)
theorem look_mem {p : List Tab} {t : Tab} (nd : (p.map (·.1)).Nodup) (h : t ∈ p) : lookK (p.map planP) (.inr t.1) = some (tabD t.2) := by
  rw [look_plan]
  have : p.find? (fun u => decide (u.1 = t.1)) = some t := by
    induction p with
    | nil => cases h
    | cons a r ih =>
      rw [List.map_cons, List.nodup_cons] at nd
      rw [List.find?_cons]
      rcases List.mem_cons.mp h with rfl | h
      · rw [decide_eq_true rfl]
      · have ne : a.1 ≠ t.1 := fun z => nd.1 (z ▸ List.mem_map_of_mem h)
        rw [decide_eq_false ne]
        exact ih nd.2 h
  rw [this] <;> rfl
end K01
set_option Elab.async false
set_option linter.all false
set_option maxRecDepth 100000
set_option maxHeartbeats 4000000
namespace Gd
open PySem PySem.Spec PyProof.Rows L2
/-- o.f as a target -/
def gFld (K : PySem.W.Frag) (to : TE) (f : Str) : TG := fun v σ H Q => to σ H fun x H1 => ∃ a C dx fs, x = .ref a ∧ H1 a = some (.ins C dx fs) ∧ Cls K C ∧ NoAttr K C f ∧ fs.length < 1000 ∧ Q σ (upd H1 a (.ins C dx (putF f v fs)))
theorem pg_fld {X : Cx} {o : Expr} {f : Str} {to : TE} {pos : Pos} (ho : PE X o to) : PG X (.Attribute o f pos) (gFld X.K to f) := ⟨fun pins s σ H v u Q I r h => by
  rw [assign_Attribute]
  refine wpAny_bind (wpAny_holding (thn (ho.run pins s σ H _ I h) fun ov t ⟨x, H1, I1, r1, a, C, dx, fs, ex, ea, c, n, l, q⟩ => ?_))
  subst ex
  cases r1
  refine wpAny_bind (wpAny_standAt (wpAny_bind (wpAny_holding (setattr_ok I1 ea c n l r fun t2 I2 => ?_))))
  exact wpAny_release ⟨σ, _, I2, q⟩⟩
end Gd
namespace K01
open PySem PySem.Spec PyProof.Rows L2 Gd Evl Dl
abbrev fsA (y : V) : List (Str × V) := [("_tables", y)]
abbrev fsB (y c : V) : List (Str × V) := [("_tables", y), ("_changes", c)]
abbrev fsC (y c z : V) : List (Str × V) := [("_tables", y), ("_changes", c), ("_sizes", z)]
abbrev fsF (y c z k l m : V) : List (Str × V) := [("_tables", y), ("_changes", c), ("_sizes", z), ("_kinds", k), ("_column_at", l), ("_flag_at", m)]
/-- what stands already -/
def Q3 (K : PySem.W.Frag) (q : List Tab) (y : V) (ch : Addr) (z : V) (F : Hp) : Prop := Dq K F y (.dict (q.map planP)) ∧ IsTD K (chL q) F (.ref ch) ∧ Dq K F z (.dict (szL q))
section
variable {K : PySem.W.Frag} {B : Base} {b : Nat} {C x dx ch kd ca fa : Addr} {y z : V} {q : List Tab} {l1 l2 l3 : List (List Str × PyData)} {F F' H H' : Hp} {σ : L2.St} {D : Ends}
theorem Q3.up (h : Q3 K q y ch z F) (e : Ex F F') : Q3 K q y ch z F' := ⟨h.1.up e, h.2.1.up e, h.2.2.up e⟩
theorem Q3.re {a : Addr} {u u' : HO} (h : Q3 K q y ch z F) (hF : F a = some u) (hu : Iso u) (ne : ch ≠ a) : Q3 K q y ch z (L2.upd F a u') := ⟨dq_re hF hu _ _ h.1, h.2.1.re hF hu ne, dq_re hF hu _ _ h.2.2⟩
structure Big (K : PySem.W.Frag) (B : Base) (b : Nat) (C x dx : Addr) (y : V) (ch : Addr) (z : V) (kd ca fa : Addr) (q : List Tab) (l1 l2 l3 : List (List Str × PyData)) (F H : Hp) : Prop where
  sr : Sr K B b F H
  fx : F x = some (.ins C dx (fsF y (.ref ch) z (.ref kd) (.ref ca) (.ref fa)))
  q3 : Q3 K q y ch z F
  k1 : IsTD K l1 F (.ref kd)
  k2 : IsTD K l2 F (.ref ca)
  k3 : IsTD K l3 F (.ref fa)
  ne : kd ≠ ca ∧ kd ≠ fa ∧ ca ≠ fa ∧ ch ≠ kd ∧ ch ≠ ca ∧ ch ≠ fa
  o1 : B.H0 kd = none ∧ B.F0 kd = none
  o2 : B.H0 ca = none ∧ B.F0 ca = none
  o3 : B.H0 fa = none ∧ B.F0 fa = none
  free : B.free = true
  lk : ∀ p ∈ B.lk, ∃ kvs, F p.1 = some (.dK kvs)
theorem ex0_none (s : Sr K B b F H) {a : Addr} (h : F a = none) : B.F0 a = none := by
  cases e : B.F0 a with
  | none => rfl
  | some u =>
    rw [s.ex0 a u e] at h
    cases h
theorem isTD_ne {l : List (List Str × PyData)} {a c : Addr} {u : HO} (h : IsTD K l F (.ref a)) (hc : F c = some u) (hu : ∀ w, u ≠ .dT w) : a ≠ c := fun e => by
  obtain ⟨a', kvs, e1, h2, _⟩ := h
  cases e1
  rw [e, hc] at h2
  exact hu _ (Option.some.inj h2)
theorem isTD_some {l : List (List Str × PyData)} {a : Addr} (h : IsTD K l F (.ref a)) : F a ≠ none := fun e => by
  obtain ⟨a', kvs, e1, h2, _⟩ := h
  cases e1
  rw [e] at h2
  cases h2
theorem isTD_new {a : Addr} : IsTD K [] (L2.upd F a (.dT [])) (.ref a) := ⟨a, [], rfl, upd_same, rfl, .nil⟩
theorem st_new3 (hc : Cls K C) (hn : ∀ f ∈ (["_tables", "_changes", "_sizes", "_kinds", "_column_at", "_flag_at"] : List Str), NoAttr K C f) (s : Sr K B b F H) (fx : F x = some (.ins C dx (fsC y (.ref ch) z))) (q3 : Q3 K q y ch z F) (h0 : σ[0]? = some (some (.ref x))) (hx0 : B.H0 x = none) (fx0 : B.F0 x = none) (hfr : B.free = true) (hlk : B.lk = [])
    (k : ∀ F' H' kd ca fa, Big K B b C x dx y ch z kd ca fa q [] [] [] F' H' → D.nx σ H') :
    tAsg (tTup (tCons tDNewT (tCons tDNewT (tCons tDNewT tNil)))) (gTup K 3 (gCons (gFld K (tVar 0) "_kinds") (gCons (gFld K (tVar 0) "_column_at") (gCons (gFld K (tVar 0) "_flag_at") gNil)))) D σ H := by
  intro k1 n1 k2 n2 k3 n3
  refine ⟨by show 3 ≤ sizeLine; decide, fun T nT => ?_⟩
  have nf : ∀ (o : Obj) (w : HO), HO.dT [] = .frz o w → XT o w := fun _ _ z => nomatch z
  have nb : ∀ ps, HO.dT [] ≠ .tbl ps := fun _ z => nomatch z
  have sa := s.newF n1 nf nb
  have sb := sa.newF n2 nf nb
  have sc := sb.newF n3 nf nb
  have sd := sc.newF nT (u := .tup [.ref k1, .ref k2, .ref k3]) (fun _ _ z => nomatch z) (fun _ z => nomatch z)
  have m1 := s.non n1
  have m2 := sa.non n2
  have m3 := sb.non n3
  have mT := sc.non nT
  have ea : Ex F (L2.upd F k1 (.dT [])) := Ex.new m1
  have eb : Ex (L2.upd F k1 (.dT [])) (L2.upd (L2.upd F k1 (.dT [])) k2 (.dT [])) := Ex.new m2
  have ec : Ex (L2.upd (L2.upd F k1 (.dT [])) k2 (.dT [])) (L2.upd (L2.upd (L2.upd F k1 (.dT [])) k2 (.dT [])) k3 (.dT [])) := Ex.new m3
  have ed := Ex.new (o := .tup [.ref k1, .ref k2, .ref k3]) mT
  have h01 := s.h0 n1
  have h02 := sa.h0 n2
  have h03 := sb.h0 n3
  have f01 := ex0_none s m1
  have f02 := ex0_none sa m2
  have f03 := ex0_none sb m3
  have i1 : IsTD K [] _ (.ref k1) := (isTD_new (K := K) (F := F) (a := k1)).up (eb.trans (ec.trans ed))
  have i2 : IsTD K [] _ (.ref k2) := (isTD_new (K := K) (F := L2.upd F k1 (.dT [])) (a := k2)).up (ec.trans ed)
  have i3 : IsTD K [] _ (.ref k3) := (isTD_new (K := K) (F := L2.upd (L2.upd F k1 (.dT [])) k2 (.dT [])) (a := k3)).up ed
  have q4 := q3.up (ea.trans (eb.trans (ec.trans ed)))
  have fx4 := (ea.trans (eb.trans (ec.trans ed))) _ _ fx
  have n12 : k1 ≠ k2 := ne_of_none upd_same m2
  have n13 : k1 ≠ k3 := ne_of_none (eb _ _ upd_same) m3
  have n23 : k2 ≠ k3 := ne_of_none upd_same m3
  obtain ⟨ch', kc, ec1, ec2, _⟩ := q3.2.1
  cases ec1
  have c1 : ch ≠ k1 := ne_of_none ec2 m1
  have c2 : ch ≠ k2 := ne_of_none (ea _ _ ec2) m2
  have c3 : ch ≠ k3 := ne_of_none (eb _ _ (ea _ _ ec2)) m3
  have tT : (L2.upd (L2.upd (L2.upd (L2.upd H k1 (.dT [])) k2 (.dT [])) k3 (.dT [])) T (.tup [.ref k1, .ref k2, .ref k3])) T = some (.tup [.ref k1, .ref k2, .ref k3]) := upd_same
  revert sd fx4 i1 i2 i3 q4 tT
  generalize L2.upd (L2.upd (L2.upd (L2.upd H k1 (.dT [])) k2 (.dT [])) k3 (.dT [])) T (.tup [.ref k1, .ref k2, .ref k3]) = H4
  generalize L2.upd (L2.upd (L2.upd (L2.upd F k1 (.dT [])) k2 (.dT [])) k3 (.dT [])) T (.tup [.ref k1, .ref k2, .ref k3]) = F4
  intro sd i1 i2 i3 q4 fx4 tT
  have cx : ch ≠ x := isTD_ne q4.2.1 fx4 (fun _ z => nomatch z)
  have x1 : k1 ≠ x := isTD_ne i1 fx4 (fun _ z => nomatch z)
  have x2 : k2 ≠ x := isTD_ne i2 fx4 (fun _ z => nomatch z)
  have x3 : k3 ≠ x := isTD_ne i3 fx4 (fun _ z => nomatch z)
  have iI : ∀ fs, Iso (.ins C dx fs) := fun _ => True.intro
  have hx4 := sd.exact fx4 (fun z => z)
  refine ⟨T, _, rfl, SqT.of tT, rfl, _, _, rfl, _, h0, x, C, dx, _, rfl, hx4, hc, hn _ (by decide +kernel), (show 3 < 1000 by decide), ?_⟩
  have s5 := sd.rewrite fx4 (iI _) (iI (putF "_kinds" (.ref k1) (fsC y (.ref ch) z))) hx4 hx0 fx0
  have q5 := q4.re (u' := .ins C dx (putF "_kinds" (.ref k1) (fsC y (.ref ch) z))) fx4 (iI _) cx
  refine ⟨_, _, rfl, _, h0, x, C, dx, _, rfl, upd_same, hc, hn _ (by decide +kernel), (show 4 < 1000 by decide), ?_⟩
  have s6 := s5.rewrite upd_same (iI _) (iI (putF "_column_at" (.ref k2) (putF "_kinds" (.ref k1) (fsC y (.ref ch) z)))) upd_same hx0 fx0
  have q6 := q5.re (u' := .ins C dx (putF "_column_at" (.ref k2) (putF "_kinds" (.ref k1) (fsC y (.ref ch) z)))) upd_same (iI _) cx
  refine ⟨_, _, rfl, _, h0, x, C, dx, _, rfl, upd_same, hc, hn _ (by decide +kernel), (show 5 < 1000 by decide), ?_⟩
  have s7 := s6.rewrite upd_same (iI _) (iI (fsF y (.ref ch) z (.ref k1) (.ref k2) (.ref k3))) upd_same hx0 fx0
  have q7 := q6.re (u' := .ins C dx (fsF y (.ref ch) z (.ref k1) (.ref k2) (.ref k3))) upd_same (iI _) cx
  refine ⟨rfl, k _ _ k1 k2 k3 ⟨s7, upd_same, q7, ?_, ?_, ?_, ⟨n12, n13, n23, c1, c2, c3⟩, ⟨h01, f01⟩, ⟨h02, f02⟩, ⟨h03, f03⟩, hfr, fun p hp => by rw [hlk] at hp; cases hp⟩⟩
  · exact ((i1.re fx4 (iI _) x1).re upd_same (iI _) x1).re upd_same (iI _) x1
  · exact ((i2.re fx4 (iI _) x2).re upd_same (iI _) x2).re upd_same (iI _) x2
  · exact ((i3.re fx4 (iI _) x3).re upd_same (iI _) x3).re upd_same (iI _) x3
end
end K01
set_option Elab.async false
set_option linter.all false
set_option maxRecDepth 100000
set_option maxHeartbeats 4000000
namespace K01
open PySem PySem.Spec PyProof.Rows L2 Gd Evl Dl
section
variable {K : PySem.W.Frag} {B : Base} {b : Nat} {C x dx ch kd ca fa : Addr} {y z v : V} {q : List Tab} {l1 l2 l3 : List (List Str × PyData)} {F F' F2 H H' : Hp} {σ : L2.St} {D : Ends} {d : PyData}
/-- all stays but what is under construction -/
def Keep (F F' : Hp) : Prop := ∀ a w, F a = some w → ¬ Iso w → F' a = some w
theorem Keep.refl (F : Hp) : Keep F F := fun _ _ e _ => e
theorem Keep.trans (h : Keep F F') (h2 : Keep F' F2) : Keep F F2 := fun a w e n => h2 a w (h a w e n) n
theorem Keep.ex (e : Ex F F') : Keep F F' := fun a w h _ => e a w h
theorem Keep.re {u u' : HO} (hF : F x = some u) (hu : Iso u) : Keep F (L2.upd F x u') := fun a w h n => by
  have : a ≠ x := fun e => by
    rw [e, hF] at h
    cases h
    exact n hu
  rw [upd_ne this]
  exact h
theorem Keep.rd (k : Keep F F') {a : Addr} {w : HO} (n : ¬ Iso w) (h : Rd F a w) : Rd F' a w := h.imp (fun h => k _ _ h n) fun ⟨o, h⟩ => ⟨o, k _ _ h (fun z => z)⟩
theorem Keep.sql (k : Keep F F') {a : Addr} {xs : List V} (h : SqL K F a xs) : SqL K F' a xs := h.elim (fun h => .inl (k.rd (fun z => z) h)) .inr
mutual
theorem dq_keep (k : Keep F F') : ∀ (d : PyData) (v : V), Dq K F v d → Dq K F' v d
  | .none, _, h => by
    cases h
    exact .non
  | .bool _, _, h => by
    cases h
    exact .bl _
  | .int _, _, h => by
    cases h
    exact .int _
  | .str _, _, h => by
    cases h
    exact .str _
  | .list ds, _, h => by
    cases h with
    | lst hs r => exact .lst (k.rd (fun z => z) hs) (dqAll_keep k ds _ r)
  | .tuple ds, _, h => by
    cases h with
    | tup hs r => exact .tup (k.rd (fun z => z) hs) (dqAll_keep k ds _ r)
  | .dict ds, _, h => by
    cases h with
    | dct hs e r => exact .dct (k.rd (fun z => z) hs) e (dqKv_keep k ds _ r)
theorem dqAll_keep (k : Keep F F') : ∀ (ds : List PyData) (vs : List V), DqAll K F vs ds → DqAll K F' vs ds
  | [], _, h => by
    cases h
    exact .nil
  | d :: ds, _, h => by
    cases h with
    | cons h1 h2 => exact .cons (dq_keep k d _ h1) (dqAll_keep k ds _ h2)
theorem dqKv_keep (k : Keep F F') : ∀ (ds : List (PyData × PyData)) (vs : List V), DqAll K F vs (ds.map (·.2)) → DqAll K F' vs (ds.map (·.2))
  | [], _, h => by
    cases h
    exact .nil
  | (_, d) :: ds, _, h => by
    cases h with
    | cons h1 h2 => exact .cons (dq_keep k d _ h1) (dqKv_keep k ds _ h2)
end
/-- a new entry -/
theorem td_put {l : List (List Str × PyData)} {a : Addr} {ks : List Str} (h : IsTD K l F (.ref a)) (nk : ks ∉ l.map (·.1)) (hv : Dq K F v d) : ∃ kvs, F a = some (.dT kvs) ∧ kvs.length = l.length ∧ IsTD K (l ++ [(ks, d)]) (L2.upd F a (.dT (putK kvs (ks.map Sum.inr) v))) (.ref a) := by
  obtain ⟨a', kvs, e, h2, h3, h4⟩ := h
  cases e
  have nk' : (ks.map (Sum.inr (α := Int))) ∉ kvs.map (·.1) := fun z => nk (by
    rw [h3] at z
    obtain ⟨pp, h1, h2⟩ := List.mem_map.mp z
    rw [← inr_inj h2]
    exact List.mem_map_of_mem h1)
  refine ⟨kvs, h2, by have := congrArg List.length h3; simpa using this, a, _, rfl, upd_same, ?_, ?_⟩
  · rw [putK_new nk', List.map_append, List.map_append, h3] <;> rfl
  · rw [putK_new nk', List.map_append, List.map_append]
    exact dqAll_re h2 True.intro _ _ (DqAll.snoc h4 hv)
theorem Big.newF (g : Big K B b C x dx y ch z kd ca fa q l1 l2 l3 F H) {T : Addr} (nT : H T = none) {xs : List V} : Big K B b C x dx y ch z kd ca fa q l1 l2 l3 (L2.upd F T (.tup xs)) (L2.upd H T (.tup xs)) ∧ Keep F (L2.upd F T (.tup xs)) := by
  have e : Ex F (L2.upd F T (.tup xs)) := Ex.new (g.sr.non nT)
  exact ⟨⟨g.sr.newF nT (fun _ _ z => nomatch z) (fun _ z => nomatch z), e _ _ g.fx, g.q3.up e, g.k1.up e, g.k2.up e, g.k3.up e, g.ne, g.o1, g.o2, g.o3, g.free, fun p hp => (g.lk p hp).imp fun _ h => e _ _ h⟩, .ex e⟩
theorem Big.un (g : Big K B b C x dx y ch z kd ca fa q l1 l2 l3 F H) {a : Addr} {kvs : List (List Key × V)} (h : F a = some (.dT kvs)) : H a = some (.dT kvs) := g.sr.free g.free a _ h fun l => by
  obtain ⟨p, hp, rfl⟩ := List.mem_map.mp l
  obtain ⟨ks, e⟩ := g.lk p hp
  rw [h] at e
  cases e
theorem Big.put1 (g : Big K B b C x dx y ch z kd ca fa q l1 l2 l3 F H) {ks : List Str} (nk : ks ∉ l1.map (·.1)) (hv : Dq K F v d) : ∃ kvs, H kd = some (.dT kvs) ∧ kvs.length = l1.length ∧
    Big K B b C x dx y ch z kd ca fa q (l1 ++ [(ks, d)]) l2 l3 (L2.upd F kd (.dT (putK kvs (ks.map Sum.inr) v))) (L2.upd H kd (.dT (putK kvs (ks.map Sum.inr) v))) ∧ Keep F (L2.upd F kd (.dT (putK kvs (ks.map Sum.inr) v))) := by
  obtain ⟨kvs, h1, h2, h3⟩ := td_put g.k1 nk hv
  have nx : x ≠ kd := (isTD_ne g.k1 g.fx (fun _ z => nomatch z)).symm
  have hH := g.un h1
  have kp : Keep F (L2.upd F kd (.dT (putK kvs (ks.map Sum.inr) v))) := .re h1 True.intro
  exact ⟨kvs, hH, h2, ⟨g.sr.rewrite h1 True.intro True.intro hH g.o1.1 g.o1.2, by rw [upd_ne nx]; exact g.fx, g.q3.re h1 True.intro g.ne.2.2.2.1, h3, g.k2.re h1 True.intro g.ne.1.symm, g.k3.re h1 True.intro g.ne.2.1.symm, g.ne, g.o1, g.o2, g.o3, g.free, fun p hp => (g.lk p hp).imp fun _ h => kp _ _ h (fun z => z)⟩, kp⟩
theorem Big.put2 (g : Big K B b C x dx y ch z kd ca fa q l1 l2 l3 F H) {ks : List Str} (nk : ks ∉ l2.map (·.1)) (hv : Dq K F v d) : ∃ kvs, H ca = some (.dT kvs) ∧ kvs.length = l2.length ∧
    Big K B b C x dx y ch z kd ca fa q l1 (l2 ++ [(ks, d)]) l3 (L2.upd F ca (.dT (putK kvs (ks.map Sum.inr) v))) (L2.upd H ca (.dT (putK kvs (ks.map Sum.inr) v))) ∧ Keep F (L2.upd F ca (.dT (putK kvs (ks.map Sum.inr) v))) := by
  obtain ⟨kvs, h1, h2, h3⟩ := td_put g.k2 nk hv
  have nx : x ≠ ca := (isTD_ne g.k2 g.fx (fun _ z => nomatch z)).symm
  have hH := g.un h1
  have kp : Keep F (L2.upd F ca (.dT (putK kvs (ks.map Sum.inr) v))) := .re h1 True.intro
  exact ⟨kvs, hH, h2, ⟨g.sr.rewrite h1 True.intro True.intro hH g.o2.1 g.o2.2, by rw [upd_ne nx]; exact g.fx, g.q3.re h1 True.intro g.ne.2.2.2.2.1, g.k1.re h1 True.intro g.ne.1, h3, g.k3.re h1 True.intro g.ne.2.2.1.symm, g.ne, g.o1, g.o2, g.o3, g.free, fun p hp => (g.lk p hp).imp fun _ h => kp _ _ h (fun z => z)⟩, kp⟩
theorem Big.put3 (g : Big K B b C x dx y ch z kd ca fa q l1 l2 l3 F H) {ks : List Str} (nk : ks ∉ l3.map (·.1)) (hv : Dq K F v d) : ∃ kvs, H fa = some (.dT kvs) ∧ kvs.length = l3.length ∧
    Big K B b C x dx y ch z kd ca fa q l1 l2 (l3 ++ [(ks, d)]) (L2.upd F fa (.dT (putK kvs (ks.map Sum.inr) v))) (L2.upd H fa (.dT (putK kvs (ks.map Sum.inr) v))) ∧ Keep F (L2.upd F fa (.dT (putK kvs (ks.map Sum.inr) v))) := by
  obtain ⟨kvs, h1, h2, h3⟩ := td_put g.k3 nk hv
  have nx : x ≠ fa := (isTD_ne g.k3 g.fx (fun _ z => nomatch z)).symm
  have hH := g.un h1
  have kp : Keep F (L2.upd F fa (.dT (putK kvs (ks.map Sum.inr) v))) := .re h1 True.intro
  exact ⟨kvs, hH, h2, ⟨g.sr.rewrite h1 True.intro True.intro hH g.o3.1 g.o3.2, by rw [upd_ne nx]; exact g.fx, g.q3.re h1 True.intro g.ne.2.2.2.2.2, g.k1.re h1 True.intro g.ne.2.1, g.k2.re h1 True.intro g.ne.2.2.1, h3, g.ne, g.o1, g.o2, g.o3, g.free, fun p hp => (g.lk p hp).imp fun _ h => kp _ _ h (fun z => z)⟩, kp⟩
/-- self.f[(table, name)] = .. -/
theorem st_put {f : Str} {j m : Nat} {t n : Str} {a : Addr} (hc : Cls K C) (hn : NoAttr K C f) (fx : H x = some (.ins C dx (fsF y (.ref ch) z (.ref kd) (.ref ca) (.ref fa)))) (hf : (fsF y (.ref ch) z (.ref kd) (.ref ca) (.ref fa)).lookup f = some (.ref a)) (h0 : σ[0]? = some (some (.ref x))) (h2 : σ[2]? = some (some (.str t))) (hj : σ[j]? = some (some (.str n))) (hm : σ[m]? = some (some v))
    (k : ∀ T, H T = none → ∃ kvs, (L2.upd H T (.tup [.str t, .str n])) a = some (.dT kvs) ∧ kvs.length < 100000 ∧ D.nx σ (L2.upd (L2.upd H T (.tup [.str t, .str n])) a (.dT (putK kvs ([t, n].map Sum.inr) v)))) :
    sDPut (tFld K (tVar 0) f) (tTup (tCons (tVar 2) (tCons (tVar j) tNil))) (tVar m) D σ H := by
  refine ⟨v, hm, .ref x, h0, x, C, dx, _, .ref a, rfl, fx, hc, hn, hf, .str t, h2, .str n, hj, (by show 2 ≤ sizeLine; decide), fun T nT => ?_⟩
  obtain ⟨kvs, h3, h4, h5⟩ := k T nT
  exact ⟨a, _, rfl, .inr ⟨kvs, [t, n].map Sum.inr, T, h3, rfl, upd_same, sz_lt h4, rfl⟩, h5⟩
end
end K01
set_option Elab.async false
set_option linter.all false
set_option maxRecDepth 100000
set_option maxHeartbeats 4000000
namespace K01
open PySem PySem.Spec PyProof.Rows L2 Gd Evl Dl
section
variable {K : PySem.W.Frag} {B : Base} {b : Nat} {C x dx ch kd ca fa cols fls : Addr} {y z v : V} {q : List Tab} {l1 l2 l3 : List (List Str × PyData)} {F F' F2 H H' : Hp} {σ : L2.St} {D : Ends} {d : PyData} {t : Tab} {a1 a2 a3 a4 a5 a6 a7 a8 : Option V}
theorem st_seq' {t u : TS} {D : Ends} {σ : L2.St} {H : Hp} (h : t { D with nx := u D } σ H) : tSeq t u D σ H := h
theorem nk_of {α : Type} {l m : List (α × PyData)} {i : Nat} {p : α × PyData} (nd : ((l ++ m).map (·.1)).Nodup) (h : m[i]? = some p) : p.1 ∉ (l ++ m.take i).map (·.1) := by
  have h1 : (l ++ m)[l.length + i]? = some p := by rw [List.getElem?_append_right (by omega), show l.length + i - l.length = i by omega, h]
  have := nd_take (f := fun p : α × PyData => p.1) nd h1
  rwa [List.take_append, List.take_of_length_le (by omega), show l.length + i - l.length = i by omega] at this
theorem take_len {α : Type} {m : List α} {n : Nat} (h : m.length = n) : m.take n = m := by rw [← h, List.take_length]
theorem kdT_len (t : Tab) : (kdT t).length = t.2.1.length := List.length_map ..
theorem caT_len (t : Tab) : (caT t).length = t.2.1.length := by
  unfold caT
  rw [List.length_map, List.length_zipIdx]
theorem faT_len (t : Tab) : (faT t).length = t.2.2.length := by
  unfold faT
  rw [List.length_map, List.length_zipIdx]
theorem kdT_at {i : Nat} {c : Str × Str} (h : t.2.1[i]? = some c) : (kdT t)[i]? = some ([t.1, c.1], .str c.2) := by
  unfold kdT
  rw [List.getElem?_map, h] <;> rfl
theorem caT_at {i : Nat} {c : Str × Str} (h : t.2.1[i]? = some c) : (caT t)[i]? = some ([t.1, c.1], .int (i : Int)) := by
  unfold caT
  rw [List.getElem?_map, List.getElem?_zipIdx, h]
  simp
theorem faT_at {i : Nat} {f : Str} (h : t.2.2[i]? = some f) : (faT t)[i]? = some ([t.1, f], .int (i : Int)) := by
  unfold faT
  rw [List.getElem?_map, List.getElem?_zipIdx, h]
  simp
abbrev gAtPair (K : PySem.W.Frag) : TG := gTup K 2 (gCons (gName 6) (gCons (gTup K 2 (gCons (gName 7) (gCons (gName 3) gNil))) gNil))
theorem st_cols (hc : Cls K C) (hn : ∀ f ∈ (["_tables", "_changes", "_sizes", "_kinds", "_column_at", "_flag_at"] : List Str), NoAttr K C f) (g : Big K B b C x dx y ch z kd ca fa q l1 l2 l3 F H) (hd : Dq K F (.ref cols) (.tuple (t.2.1.map colD)))
    (nd1 : ((l1 ++ kdT t).map (·.1)).Nodup) (nd2 : ((l2 ++ caT t).map (·.1)).Nodup) (z1 : l1.length + t.2.1.length < 1000) (z2 : l2.length + t.2.1.length < 1000)
    (k : ∀ F' H' a3 a6 a7, Big K B b C x dx y ch z kd ca fa q (l1 ++ kdT t) (l2 ++ caT t) l3 F' H' → Keep F F' → D.nx [some (.ref x), a1, some (.str t.1), a3, some (.ref cols), a5, a6, a7, a8] H') :
    tFor (iEnumT K (tCons (tVar 4) tNil)) (gAtPair K) (tSeq (sDPut (tFld K (tVar 0) "_kinds") (tTup (tCons (tVar 2) (tCons (tVar 7) tNil))) (tVar 3)) (sDPut (tFld K (tVar 0) "_column_at") (tTup (tCons (tVar 2) (tCons (tVar 7) tNil))) (tVar 6)))
      D [some (.ref x), a1, some (.str t.1), a3, some (.ref cols), a5, a6, a7, a8] H := by
  cases hd with
  | @tup _ vs _ hr hv =>
    have hvl := hv.len
    rw [List.length_map] at hvl
    refine ⟨.ref cols, rfl, cols, vs, rfl, .inl (g.sr.lk _ _ hr), ?_⟩
    refine for_it (walk_enumT (K := K) (a := cols) (xs := vs)) (fun i σ H' => ∃ F' a3 a6 a7, σ = [some (.ref x), a1, some (.str t.1), a3, some (.ref cols), a5, a6, a7, a8] ∧ Big K B b C x dx y ch z kd ca fa q (l1 ++ (kdT t).take i) (l2 ++ (caT t).take i) l3 F' H' ∧ Keep F F')
      ⟨F, a3, a6, a7, rfl, by simpa using g, Keep.refl F⟩ ?_ ?_ ?_
    · rintro i σ H1 _ ⟨F1, b3, b6, b7, _, g1, k1⟩
      exact .inl (g1.sr.lk _ _ (k1.rd (fun z => z) hr))
    · rintro i w σ H1 H2 hi ⟨F1, b3, b6, b7, rfl, g1, k1⟩ ⟨T, xv, yv, rfl, nT, rfl, e1, e2⟩
      cases e1
      have hi' : i < t.2.1.length := by omega
      obtain ⟨c, hcc⟩ : ∃ c, t.2.1[i]? = some c := ⟨_, List.getElem?_eq_getElem hi'⟩
      obtain ⟨yv', hy1, hy2⟩ := (dqAll_keep k1 _ _ hv).get i (colD c) (by rw [List.getElem?_map, hcc] <;> rfl)
      replace e2 : vs[i]? = some yv := e2
      rw [e2] at hy1
      cases hy1
      obtain ⟨g2, k2⟩ := g1.newF nT (xs := [.int (i : Int), yv])
      have hy3 := dq_keep k2 _ _ hy2
      cases hy3 with
      | @tup cc ws _ hr2 hv2 =>
        cases hv2 with
        | cons h1 h2 =>
          cases h1
          cases h2 with
          | cons h2 h3 =>
            cases h2
            cases h3
            refine ⟨T, _, rfl, SqT.of upd_same, rfl, _, _, rfl, _, _, rfl, cc, _, rfl, .inl (g2.sr.lk _ _ hr2), rfl, _, _, rfl, _, _, rfl, rfl, rfl, ?_⟩
            refine st_seq' (st_put (t := t.1) (n := c.1) (a := kd) (v := .str c.2) hc (hn _ (by decide +kernel)) (g2.sr.exact g2.fx (fun z => z)) rfl rfl rfl rfl rfl fun T2 nT2 => ?_)
            obtain ⟨g3, k3⟩ := g2.newF nT2 (xs := [.str t.1, .str c.1])
            obtain ⟨kvs, p1, p2, g4, k4⟩ := g3.put1 (ks := [t.1, c.1]) (v := .str c.2) (d := .str c.2) (nk_of nd1 (kdT_at hcc)) (.str _)
            refine ⟨kvs, p1, ?_, ?_⟩
            · rw [p2, List.length_append, List.length_take, kdT_len]
              omega
            refine st_put (t := t.1) (n := c.1) (a := ca) (v := .int (i : Int)) hc (hn _ (by decide +kernel)) (g4.sr.exact g4.fx (fun z => z)) rfl rfl rfl rfl rfl fun T3 nT3 => ?_
            obtain ⟨g5, k5⟩ := g4.newF nT3 (xs := [.str t.1, .str c.1])
            obtain ⟨kvs2, p3, p4, g6, k6⟩ := g5.put2 (ks := [t.1, c.1]) (v := .int (i : Int)) (d := .int (i : Int)) (nk_of nd2 (caT_at hcc)) (.int _)
            refine ⟨kvs2, p3, ?_, ?_⟩
            · rw [p4, List.length_append, List.length_take, caT_len]
              omega
            refine ⟨_, _, _, _, rfl, ?_, k1.trans (k2.trans (k3.trans (k4.trans (k5.trans k6))))⟩
            rw [take_snoc (kdT_at hcc), take_snoc (caT_at hcc), ← List.append_assoc, ← List.append_assoc]
            exact g6
    · rintro σ H1 ⟨F1, b3, b6, b7, rfl, g1, k1⟩
      rw [hvl, take_len (kdT_len t), take_len (caT_len t)] at g1
      exact k F1 H1 b3 b6 b7 g1 k1
theorem st_flags (hc : Cls K C) (hn : ∀ f ∈ (["_tables", "_changes", "_sizes", "_kinds", "_column_at", "_flag_at"] : List Str), NoAttr K C f) (g : Big K B b C x dx y ch z kd ca fa q l1 l2 l3 F H) (hd : Dq K F (.ref fls) (.tuple (t.2.2.map .str)))
    (nd3 : ((l3 ++ faT t).map (·.1)).Nodup) (z3 : l3.length + t.2.2.length < 1000)
    (k : ∀ F' H' a6 a8, Big K B b C x dx y ch z kd ca fa q l1 l2 (l3 ++ faT t) F' H' → Keep F F' → D.nx [some (.ref x), a1, some (.str t.1), a3, a4, some (.ref fls), a6, a7, a8] H') :
    tFor (iEnumT K (tCons (tVar 5) tNil)) (gTup K 2 (gCons (gName 6) (gCons (gName 8) gNil))) (sDPut (tFld K (tVar 0) "_flag_at") (tTup (tCons (tVar 2) (tCons (tVar 8) tNil))) (tVar 6))
      D [some (.ref x), a1, some (.str t.1), a3, a4, some (.ref fls), a6, a7, a8] H := by
  cases hd with
  | @tup _ vs _ hr hv =>
    have hvl := hv.len
    rw [List.length_map] at hvl
    refine ⟨.ref fls, rfl, fls, vs, rfl, .inl (g.sr.lk _ _ hr), ?_⟩
    refine for_it (walk_enumT (K := K) (a := fls) (xs := vs)) (fun i σ H' => ∃ F' a6 a8, σ = [some (.ref x), a1, some (.str t.1), a3, a4, some (.ref fls), a6, a7, a8] ∧ Big K B b C x dx y ch z kd ca fa q l1 l2 (l3 ++ (faT t).take i) F' H' ∧ Keep F F')
      ⟨F, a6, a8, rfl, by simpa using g, Keep.refl F⟩ ?_ ?_ ?_
    · rintro i σ H1 _ ⟨F1, b6, b8, _, g1, k1⟩
      exact .inl (g1.sr.lk _ _ (k1.rd (fun z => z) hr))
    · rintro i w σ H1 H2 hi ⟨F1, b6, b8, rfl, g1, k1⟩ ⟨T, xv, yv, rfl, nT, rfl, e1, e2⟩
      cases e1
      have hi' : i < t.2.2.length := by omega
      obtain ⟨f, hcc⟩ : ∃ f, t.2.2[i]? = some f := ⟨_, List.getElem?_eq_getElem hi'⟩
      obtain ⟨yv', hy1, hy2⟩ := (dqAll_keep k1 _ _ hv).get i (.str f) (by rw [List.getElem?_map, hcc] <;> rfl)
      replace e2 : vs[i]? = some yv := e2
      rw [e2] at hy1
      cases hy1
      cases hy2
      obtain ⟨g2, k2⟩ := g1.newF nT (xs := [.int (i : Int), .str f])
      refine ⟨T, _, rfl, SqT.of upd_same, rfl, _, _, rfl, _, _, rfl, rfl, ?_⟩
      refine st_put (t := t.1) (n := f) (a := fa) (v := .int (i : Int)) hc (hn _ (by decide +kernel)) (g2.sr.exact g2.fx (fun z => z)) rfl rfl rfl rfl rfl fun T3 nT3 => ?_
      obtain ⟨g5, k5⟩ := g2.newF nT3 (xs := [.str t.1, .str f])
      obtain ⟨kvs2, p3, p4, g6, k6⟩ := g5.put3 (ks := [t.1, f]) (v := .int (i : Int)) (d := .int (i : Int)) (nk_of nd3 (faT_at hcc)) (.int _)
      refine ⟨kvs2, p3, ?_, ?_⟩
      · rw [p4, List.length_append, List.length_take, faT_len]
        omega
      refine ⟨_, _, _, rfl, ?_, k1.trans (k2.trans (k5.trans k6))⟩
      rw [take_snoc (faT_at hcc), ← List.append_assoc]
      exact g6
    · rintro σ H1 ⟨F1, b6, b8, rfl, g1, k1⟩
      rw [hvl, take_len (faT_len t)] at g1
      exact k F1 H1 b6 b8 g1 k1
/-! all tables -/
theorem Big.lock (g : Big K B b C x dx y ch z kd ca fa q l1 l2 l3 F H) {dd : Addr} {o : Obj} {kvs : List (Key × V)} (hF : F dd = some (.dK kvs)) (hH : H dd = some (.dK kvs)) : Big K (B.lock dd o) b C x dx y ch z kd ca fa q l1 l2 l3 F (L2.upd H dd (.frz o (.dK kvs))) :=
  ⟨g.sr.lock (w := .dK kvs) True.intro hF hH, g.fx, g.q3, g.k1, g.k2, g.k3, g.ne, g.o1, g.o2, g.o3, g.free, fun p hp => by
    rcases List.mem_cons.mp hp with rfl | hp
    · exact ⟨kvs, hF⟩
    · exact g.lk p hp⟩
theorem flat_take {α β : Type} {f : α → List β} {l : List α} {i : Nat} {a : α} (h : l[i]? = some a) : (l.take (i + 1)).flatMap f = (l.take i).flatMap f ++ f a := by
  rw [take_snoc h, List.flatMap_append]
  simp
theorem pre_nd {α : Type} {f : Tab → List (α × PyData)} {q : List Tab} {i : Nat} {t : Tab} (nd : ((q.flatMap f).map (·.1)).Nodup) (h : q[i]? = some t) : (((q.take i).flatMap f ++ f t).map (·.1)).Nodup := by
  rw [← flat_take h]
  have e : q = q.take (i + 1) ++ q.drop (i + 1) := (List.take_append_drop _ _).symm
  rw [e, List.flatMap_append, List.map_append] at nd
  exact (List.nodup_append.mp nd).1
theorem dq_tup {ds : List PyData} (h : Dq K F v (.tuple ds)) : ∃ a vs, v = .ref a ∧ Rd F a (.tup vs) ∧ DqAll K F vs ds := by
  cases h with
  | @tup a vs _ h1 h2 => exact ⟨a, vs, rfl, h1, h2⟩
abbrev gTabT (K : PySem.W.Frag) : TG := gTup K 2 (gCons (gName 2) (gCons (gTup K 2 (gCons (gName 4) (gCons (gName 5) gNil))) gNil))
theorem st_tables (hc : Cls K C) (hn : ∀ f ∈ (["_tables", "_changes", "_sizes", "_kinds", "_column_at", "_flag_at"] : List Str), NoAttr K C f) (g : Big K B b C x dx y ch z kd ca fa q [] [] [] F H) (hlk : B.lk = []) (qOk : PlanOk q)
    (nd1 : ((kdL q).map (·.1)).Nodup) (nd2 : ((caL q).map (·.1)).Nodup) (nd3 : ((faL q).map (·.1)).Nodup) (z1 : ∀ i, (kdL (q.take i)).length ≤ 100 ∧ (caL (q.take i)).length ≤ 100 ∧ (faL (q.take i)).length ≤ 100)
    (k : ∀ F' H' σ, Big K B b C x dx y ch z kd ca fa q (kdL q) (caL q) (faL q) F' H' → D.nx σ H') :
    tLock (tFor (iItems (tFld K (tVar 0) "_tables")) (gTabT K) (tSeq
        (tFor (iEnumT K (tCons (tVar 4) tNil)) (gAtPair K) (tSeq (sDPut (tFld K (tVar 0) "_kinds") (tTup (tCons (tVar 2) (tCons (tVar 7) tNil))) (tVar 3)) (sDPut (tFld K (tVar 0) "_column_at") (tTup (tCons (tVar 2) (tCons (tVar 7) tNil))) (tVar 6))))
        (tFor (iEnumT K (tCons (tVar 5) tNil)) (gTup K 2 (gCons (gName 6) (gCons (gName 8) gNil))) (sDPut (tFld K (tVar 0) "_flag_at") (tTup (tCons (tVar 2) (tCons (tVar 8) tNil))) (tVar 6)))))
      D [some (.ref x), a1, a2, a3, a4, a5, a6, a7, a8] H := by
  have hy := g.q3.1
  generalize hps : q.map planP = ps at hy
  cases hy with
  | @dct dd kvs _ hr hk hv =>
    have hF : F dd = some (.dK kvs) := by
      rcases hr with hr | ⟨o, hr⟩
      · exact hr
      · exact (xt_no (g.sr.nfz dd o _ hr) (fun _ z => nomatch z)).elim
    have hH := g.sr.unl g.free hlk hF
    have h0 := g.sr.h0d (w := .dK kvs) True.intro hF hH
    have hl := g.sr.notLk (w := .dK kvs) True.intro hH
    have nx : x ≠ dd := fun e => by
      have := g.fx
      rw [e, hF] at this
      cases this
    have len : kvs.length = q.length := by
      have := congrArg List.length hk
      rw [← hps] at this
      simpa using this.symm
    refine ⟨dd, .dK kvs, hH, True.intro, fun o => ?_⟩
    have gl := g.lock (o := o) hF hH
    refine ⟨.ref x, rfl, x, C, dx, _, .ref dd, rfl, gl.sr.exact gl.fx (fun z => z), hc, hn _ (by decide +kernel), rfl, dd, o, kvs, rfl, upd_same, ?_⟩
    refine for_it walk_items (fun i σ H' => ∃ F' a2 a3 a4 a5 a6 a7 a8, σ = [some (.ref x), a1, a2, a3, a4, a5, a6, a7, a8] ∧ Big K (B.lock dd o) b C x dx (.ref dd) ch z kd ca fa q (kdL (q.take i)) (caL (q.take i)) (faL (q.take i)) F' H' ∧ Keep F F')
      ⟨F, a2, a3, a4, a5, a6, a7, a8, rfl, gl, Keep.refl F⟩ ?_ ?_ ?_
    · rintro i σ H1 _ ⟨F1, _, _, _, _, _, _, _, _, g1, k1⟩
      exact g1.sr.frzd (k1 _ _ hF (fun z => z))
    · rintro i w σ H1 H2 hi ⟨F1, b2, b3, b4, b5, b6, b7, b8, rfl, g1, k1⟩ ⟨T, xv, yv, rfl, nT, rfl, e1, e2⟩
      obtain ⟨t, ht⟩ : ∃ t, q[i]? = some t := ⟨_, List.getElem?_eq_getElem (by omega)⟩
      have hps' : ps[i]? = some (planP t) := by rw [← hps, List.getElem?_map, ht] <;> rfl
      obtain ⟨kv, hkv⟩ : ∃ kv, kvs[i]? = some kv := ⟨_, List.getElem?_eq_getElem hi⟩
      replace e1 : kvs[i]?.map (fun kv => kV kv.1) = some xv := e1
      replace e2 : kvs[i]?.map Prod.snd = some yv := e2
      rw [hkv] at e1 e2
      have ek : kv.1 = .inr t.1 := by
        have q1 : (ps.map (·.1))[i]? = some (.str t.1) := by rw [List.getElem?_map, hps'] <;> rfl
        rw [hk, List.getElem?_map, hkv] at q1
        have q2 : keyD kv.1 = keyD (.inr t.1) := Option.some.inj q1
        have q3 := keyIs_key kv.1 (.inr t.1)
        rw [q2, keyIs_key, decide_eq_true rfl] at q3
        exact of_decide_eq_true q3.symm
      have ex : xv = .str t.1 := by
        have := Option.some.inj e1
        rw [← this]
        show kV kv.1 = _
        rw [ek] <;> rfl
      obtain ⟨w', hw, hdw⟩ := (dqAll_keep k1 _ _ hv).get i (tabD t.2) (by rw [List.getElem?_map, hps'] <;> rfl)
      rw [List.getElem?_map, hkv, e2] at hw
      cases hw
      subst ex
      obtain ⟨g2, k2⟩ := g1.newF nT (xs := [.str t.1, yv])
      have hdw2 := dq_keep k2 _ _ hdw
      obtain ⟨tt, ws, rfl, hr2, hv2⟩ := dq_tup (ds := [.tuple (t.2.1.map colD), .tuple (t.2.2.map .str)]) hdw2
      cases hv2 with
      | cons h1 h2 =>
        cases h2 with
        | cons h2 h3 =>
          cases h3
          obtain ⟨cols, cv, rfl, _⟩ := dq_tup h1
          obtain ⟨fls, fv, rfl, _⟩ := dq_tup h2
          have tm := List.mem_of_getElem? ht
          refine ⟨T, [.str t.1, .ref tt], rfl, SqT.of upd_same, rfl, _, _, rfl, _, _, rfl, tt, _, rfl, .inl (g2.sr.lk _ _ hr2), rfl, _, _, rfl, _, _, rfl, rfl, rfl, ?_⟩
          have c3 := (qOk.tb t tm).c3
          have f2 := (qOk.tb t tm).f2
          obtain ⟨y1, y2, y3⟩ := z1 i
          refine st_seq' (st_cols (t := t) hc hn g2 h1 (pre_nd nd1 ht) (pre_nd nd2 ht) (by unfold kdL at y1 ⊢; omega) (by unfold caL at y2 ⊢; omega) fun F3 H3 c3' c6 c7 g3 k3 => ?_)
          refine st_flags (t := t) hc hn g3 (dq_keep k3 _ _ h2) (pre_nd nd3 ht) (by unfold faL at y3 ⊢; omega) fun F4 H4 c6' c8 g4 k4 => ?_
          refine ⟨F4, _, _, _, _, _, _, _, rfl, ?_, k1.trans (k2.trans (k3.trans k4))⟩
          unfold kdL caL faL
          rw [flat_take ht, flat_take ht, flat_take ht]
          exact g4
    · rintro σ H1 ⟨F1, b2, b3, b4, b5, b6, b7, b8, rfl, g1, k1⟩
      rw [len, List.take_length] at g1
      have f1 := k1 _ _ hF (fun z => z)
      refine ⟨g1.sr.frzd f1, k F1 _ _ ⟨g1.sr.unlock (w := .dK kvs) True.intro f1 h0 hl, g1.fx, g1.q3, g1.k1, g1.k2, g1.k3, g1.ne, g1.o1, g1.o2, g1.o3, g1.free, fun p hp => g1.lk p (List.mem_cons_of_mem _ hp)⟩⟩
theorem flat_len {α β : Type} {f : α → List β} {n : Nat} : ∀ {l : List α}, (∀ a ∈ l, (f a).length ≤ n) → (l.flatMap f).length ≤ n * l.length
  | [], _ => Nat.zero_le _
  | a :: r, h => by
    have h1 := h a List.mem_cons_self
    have h2 := flat_len (l := r) fun b hb => h b (List.mem_cons_of_mem _ hb)
    rw [List.flatMap_cons, List.length_append, List.length_cons, Nat.mul_add]
    omega
theorem kdT_keys (t : Tab) : (kdT t).map (·.1) = t.2.1.map fun c => [t.1, c.1] := by
  unfold kdT
  rw [List.map_map] <;> rfl
theorem caT_keys (t : Tab) : (caT t).map (·.1) = t.2.1.map fun c => [t.1, c.1] := by
  unfold caT
  rw [List.map_map]
  have : ((fun x : List Str × PyData => x.1) ∘ fun c : (Str × Str) × Nat => ([t.1, c.1.1], PyData.int (c.2 : Int))) = (fun c : Str × Str => ([t.1, c.1] : List Str)) ∘ Prod.fst := rfl
  rw [this, ← List.map_map, List.zipIdx_map_fst]
theorem faT_keys (t : Tab) : (faT t).map (·.1) = t.2.2.map fun f => [t.1, f] := by
  unfold faT
  rw [List.map_map]
  have : ((fun x : List Str × PyData => x.1) ∘ fun c : Str × Nat => ([t.1, c.1], PyData.int (c.2 : Int))) = (fun f : Str => ([t.1, f] : List Str)) ∘ Prod.fst := rfl
  rw [this, ← List.map_map, List.zipIdx_map_fst]
theorem pair_nd {α : Type} {f : α → Str} {n : Str} {l : List α} (h : (l.map f).Nodup) : (l.map fun a => ([n, f a] : List Str)).Nodup := by
  have : (l.map fun a => ([n, f a] : List Str)) = (l.map f).map fun y => [n, y] := by
    rw [List.map_map] <;> rfl
  rw [this]
  exact List.Pairwise.map _ (fun a b h z => h (by injection z with _ z; injection z)) h
theorem col_nd {t : Tab} (h : TabOk t) : (t.2.1.map (·.1)).Nodup := (List.nodup_append.mp h.nd).1
theorem tbl_nd {f : Tab → List (List Str × PyData)} {q : List Tab} (h : PlanOk q) (h1 : ∀ t ∈ q, ((f t).map (·.1)).Nodup) (h2 : ∀ t ∈ q, ∀ z ∈ (f t).map (·.1), ∃ y, z = [t.1, y]) : ((q.flatMap f).map (·.1)).Nodup := by
  rw [List.map_flatMap]
  exact flat_nd (n := fun t : Tab => t.1) (g := fun z => z[0]?) h.nd h1 fun t ht z hz => by
    obtain ⟨y, e⟩ := h2 t ht z hz
    rw [e] <;> rfl
theorem kdL_nd {q : List Tab} (h : PlanOk q) : ((kdL q).map (·.1)).Nodup := tbl_nd h (fun t ht => by rw [kdT_keys]; exact pair_nd (col_nd (h.tb t ht))) fun t ht z hz => by
  rw [kdT_keys] at hz
  obtain ⟨c, _, rfl⟩ := List.mem_map.mp hz
  exact ⟨_, rfl⟩
theorem caL_nd {q : List Tab} (h : PlanOk q) : ((caL q).map (·.1)).Nodup := tbl_nd h (fun t ht => by rw [caT_keys]; exact pair_nd (col_nd (h.tb t ht))) fun t ht z hz => by
  rw [caT_keys] at hz
  obtain ⟨c, _, rfl⟩ := List.mem_map.mp hz
  exact ⟨_, rfl⟩
theorem faL_nd {q : List Tab} (h : PlanOk q) : ((faL q).map (·.1)).Nodup := tbl_nd h (fun t ht => by
    rw [faT_keys]
    have e : t.2.2.map (fun f => ([t.1, f] : List Str)) = t.2.2.map fun f => [t.1, id f] := rfl
    rw [e]
    exact pair_nd (by rw [List.map_id]; exact (List.nodup_append.mp (h.tb t ht).nd).2.1)) fun t ht z hz => by
  rw [faT_keys] at hz
  obtain ⟨c, _, rfl⟩ := List.mem_map.mp hz
  exact ⟨_, rfl⟩
theorem lens_ok {q : List Tab} (h : PlanOk q) (i : Nat) : (kdL (q.take i)).length ≤ 100 ∧ (caL (q.take i)).length ≤ 100 ∧ (faL (q.take i)).length ≤ 100 := by
  have n4 := h.n4
  have tl : (q.take i).length ≤ q.length := List.length_take_le' ..
  have ok : ∀ t ∈ q.take i, TabOk t := fun t ht => h.tb t (List.mem_of_mem_take ht)
  refine ⟨?_, ?_, ?_⟩
  · have := flat_len (f := kdT) (n := 3) fun t ht => by rw [kdT_len]; exact (ok t ht).c3
    unfold kdL
    omega
  · have := flat_len (f := caT) (n := 3) fun t ht => by rw [caT_len]; exact (ok t ht).c3
    unfold caL
    omega
  · have := flat_len (f := faT) (n := 3) fun t ht => by rw [faT_len]; exact Nat.le_trans (ok t ht).f2 (by decide)
    unfold faL
    omega
end
end K01
set_option Elab.async false
set_option linter.all false
set_option maxRecDepth 100000
set_option maxHeartbeats 4000000
namespace K01
open PySem PySem.Spec PyProof.Rows L2 Gd Evl Dl
abbrev NI : List Str := ["self", "tables", "table", "kind", "columns", "flags", "at", "name", "flag"]
theorem st_seq {t u : TS} {D : Ends} {σ : L2.St} {H : Hp} (h : t { D with nx := u D } σ H) : tSeq t u D σ H := h
theorem st_next {D : Ends} {σ : L2.St} {H : Hp} (h : D.nx σ H) : tNext D σ H := h
theorem st_if {c : TT} {t u : TS} {D : Ends} {σ : L2.St} {H : Hp} (h : c σ H fun k H1 => if k = true then t D σ H1 else u D σ H1) : tIfS c t u D σ H := h
theorem st_fld {K : PySem.W.Frag} {B : Base} {δ : Dl.Env} {b : Nat} {σ : L2.St} {F H : Hp} {tv : TE} {f : Str} {D : Ends} {x C dx : Addr} {fs : List (Str × V)} {Rest : Dv → Nat → Prop} (s : Sd K B δ b σ F H) (m : Me K B tv δ b fun e b1 => Rest e.fz b1) (h0 : σ[0]? = some (some (.ref x))) (hc : Cls K C) (hn : NoAttr K C f) (hl : fs.length < 1000)
    (hF : F x = some (.ins C dx fs)) (hx0 : B.H0 x = none) (hf0 : B.F0 x = none)
    (k : ∀ y e b1 F1 H1, Rest e b1 → Sr K B b1 (L2.upd F1 x (.ins C dx (putF f y fs))) (L2.upd H1 x (.ins C dx (putF f y fs))) → Df K B F1 y e → F1 x = some (.ins C dx fs) → Ex F F1 → D.nx σ (L2.upd H1 x (.ins C dx (putF f y fs)))) : sFld K (tVar 0) tv f D σ H :=
  Me.run (Rest := Rest) m s fun y e b1 F1 H1 r s1 g1 d1 => by
    have f1 := g1.ex _ _ hF
    have h1 := s1.exact f1 (fun z => z)
    exact ⟨.ref x, h0, x, C, dx, fs, rfl, h1, hc, hn, hl, k y e b1 F1 H1 r (s1.rewrite f1 True.intro True.intro h1 hx0 hf0) d1 f1 g1.ex⟩
/-- self.f = a new thing -/
theorem st_fldN {K : PySem.W.Frag} {B : Base} {δ : Dl.Env} {b : Nat} {σ : L2.St} {F H : Hp} {tv : TE} {f : Str} {D : Ends} {x C dx : Addr} {fs : List (Str × V)} {Rest : Dv → Nat → Prop} (s : Sd K B δ b σ F H) (m : Me K B tv δ b fun e b1 => e.isOwn = true ∧ Rest e.fz b1) (h0 : σ[0]? = some (some (.ref x))) (hc : Cls K C) (hn : NoAttr K C f) (hl : fs.length < 1000)
    (hF : F x = some (.ins C dx fs)) (hx0 : B.H0 x = none) (hf0 : B.F0 x = none)
    (k : ∀ y e b1 F1 H1, (∃ p, y = .ref p ∧ B.H0 p = none) → Rest e b1 → Sr K B b1 (L2.upd F1 x (.ins C dx (putF f y fs))) (L2.upd H1 x (.ins C dx (putF f y fs))) → Df K B F1 y e → F1 x = some (.ins C dx fs) → Ex F F1 → D.nx σ (L2.upd H1 x (.ins C dx (putF f y fs)))) : sFld K (tVar 0) tv f D σ H :=
  m σ F H s _ fun y e b1 F0 H1 ⟨o, r⟩ s0 g0 d0 n0 => by
    obtain ⟨p, u, e1, _, _, e4⟩ := d0.ref o
    obtain ⟨F1, s1, g1, d1⟩ := g0.fz s0 d0 n0
    have f1 := g1.ex _ _ hF
    have h1 := s1.exact f1 (fun z => z)
    exact ⟨.ref x, h0, x, C, dx, fs, rfl, h1, hc, hn, hl, k y e.fz b1 F1 H1 ⟨p, e1, e4⟩ r (s1.rewrite f1 True.intro True.intro h1 hx0 hf0) d1 f1 g1.ex⟩
theorem dk_part {K : PySem.W.Frag} {B : Base} {δ : Dl.Env} {b : Nat} {P : Hp → V → Prop} {y : V} {C : Addr} {ps : List (PyData × PyData)} (hu : B.free = true ∧ B.lk = []) (hδ : δ[0]? = some (some (.mp P))) (hP : ∀ F w, P F w → ∃ a dx fs, w = .ref a ∧ F a = some (.ins C dx fs) ∧ fs.lookup ("_tables" : Str) = some y ∧ Dq K F y (.dict ps)) (hc : Cls K C) (hn : NoAttr K C "_tables") :
    DkT K B (tFld K (tVar 0) "_tables") δ b ps := fun σ F H s => by
  obtain ⟨w, h1, h2⟩ := s.get hδ
  obtain ⟨a, dx, fs, rfl, h3, h4, h5⟩ := hP F w (mp_at (K := K) (B := B) h2)
  cases h5 with
  | @dct d kvs _ hr hk hv =>
    rcases hr with hr | ⟨o, hr⟩
    · have hH := s.toSr.exact h3 (fun z => z)
      have hD := s.toSr.unl hu.1 hu.2 hr
      refine ⟨d, kvs, hr, hD, hk, hv, fun o Q q => ⟨_, h1, a, C, dx, fs, .ref d, rfl, ?_, hc, hn, h4, q⟩⟩
      have e : a ≠ d := fun z => by
        rw [z, hD] at hH
        cases hH
      rw [upd_ne e]
      exact hH
    · exact (xt_no (s.nfz d o _ hr) (fun _ z => nomatch z)).elim
/-- the first slot alone is told -/
theorem sd_self {K : PySem.W.Frag} {B : Base} {b : Nat} {x v : V} {F H : Hp} {P : Hp → V → Prop} (s : Sr K B b F H) (h : Df K B F x (.mp P)) : Sd K B [some (.mp P), none, none, none, none, none, none, none, none] b (L2.start NI [x, v]) F H :=
  Sd.less (Sd.start (N := NI) s (vs := [x, v]) (es := [.mp P, .mp fun _ _ => True]) (.cons h (.cons (show Df K B F v (.mp fun _ _ => True) from fun _ _ => True.intro) .nil)) (show 2 ≤ 9 by decide)) rfl fun i e q => by
    match i with
    | 0 => exact q
    | 1 => cases q
    | n + 2 => exact q
def Part (K : PySem.W.Frag) (x C dx : Addr) (fs : List (Str × V)) (y : V) (ps : List (PyData × PyData)) : Hp → V → Prop := fun F w => w = .ref x ∧ F x = some (.ins C dx fs) ∧ Dq K F y (.dict ps)
theorem part_fld {K : PySem.W.Frag} {B : Base} {δ : Dl.Env} {b : Nat} {R : Dv → Nat → Prop} {x C dx : Addr} {fs : List (Str × V)} {y : V} {ps : List (PyData × PyData)} (hl : fs.lookup ("_tables" : Str) = some y) (hc : Cls K C) (hn : NoAttr K C "_tables") (r : R (.dat (.dict ps)) b) (hδ : δ[0]? = some (some (.mp (Part K x C dx fs y ps))) := by rfl) :
    Me K B (tFld K (tVar 0) "_tables") δ b R := me_fld (me_var ⟨Part K x C dx fs y ps, .dat (.dict ps), rfl, fun F w h => ⟨x, dx, fs, y, h.1, h.2.1, hl, h.2.2⟩, r⟩ hδ) hc hn
theorem dk_part' {K : PySem.W.Frag} {B : Base} {δ : Dl.Env} {b : Nat} {x C dx : Addr} {fs : List (Str × V)} {y : V} {ps : List (PyData × PyData)} (hu : B.free = true ∧ B.lk = []) (hl : fs.lookup ("_tables" : Str) = some y) (hc : Cls K C) (hn : NoAttr K C "_tables") (hδ : δ[0]? = some (some (.mp (Part K x C dx fs y ps))) := by rfl) :
    DkT K B (tFld K (tVar 0) "_tables") δ b ps := dk_part hu hδ (fun F w h => ⟨x, dx, fs, h.1, h.2.1, hl, h.2.2⟩) hc hn
theorem cd_are {K : PySem.W.Frag} {B : Base} {b : Nat} {d : PyData} {R : Dv → Nat → Prop} {E : XK} {f : PyData → Bool} (hu : B.free = true ∧ B.lk = []) (hs : small d = true) (hn : ∀ ds, d = .dict ds → (ds.map (·.1)).Nodup) (k : R (.dat (.bool (f d))) b) :
    CallD K B (fun vs H Q => spT K f vs H Q E) [.dat d] b R := fun F H s vs hd Q q => by
  obtain ⟨v, rfl, h⟩ := df1 hd
  have h : Dq K F v d := h
  refine ⟨v, d, rfl, s.dq h, hs, fun ds e => ⟨hn ds e, ?_⟩, fun H' x => q _ _ b F H' k (s.grow x) (Go.of_ex x) (.bl _) (Nw.no rfl)⟩
  subst e
  cases h with
  | @dct a kvs _ hr hk hv =>
    rcases hr with hr | ⟨o, hr⟩
    · exact ⟨a, kvs, rfl, s.unl hu.1 hu.2 hr⟩
    · exact (xt_no (s.nfz a o _ hr) (fun _ z => nomatch z)).elim
section
variable {P : Program} {w : World} {K : PySem.W.Frag} {mg : Str → Option Value} {base : Heap} {C f fAT fCh fN fC fT : Addr} {fd fdAT fdCh fdN fdC fdT : FuncData}
theorem scInit : FnScope NI ["self", "tables"] (defScope (meth 0)) := ⟨rfl, rfl, rfl, by decide +kernel, rfl, by decide +kernel, by decide +kernel⟩
structure InT (K : PySem.W.Frag) (mg : Str → Option Value) (fAT fCh fN fC fT : Addr) (fdAT fdCh fdN fdC fdT : FuncData) : Prop where
  tb : TbT K mg fN fC fT
  n : FnP K "is_name" sIsName fN fdN
  c : FnP K "_is_column" sIsColumn fC fdC
  t : FnP K "_is_table" sIsTable fT fdT
  a : FnP K "_are_tables" sAreTables fAT fdAT
  ch : FnP K "_changes" sChanges fCh fdCh
  gA : mg "_are_tables" = some (.ref fAT)
  gC : mg "_changes" = some (.ref fCh)
  sorted : mg "sorted" = none
  enum : mg "enumerate" = none
  len : mg "len" = none
/-- a schema whose dicts of tables and of sizes are new at H0 -/
def IsSchN (K : PySem.W.Frag) (C : Addr) (H0 : Hp) (p : List Tab) (F : Hp) (v : V) : Prop := ∃ a dx tb ch sz kd ca fa, v = .ref a ∧ F a = some (.ins C dx (schFs tb ch sz kd ca fa)) ∧ Dq K F (.ref tb) (.dict (p.map planP)) ∧ IsTD K (chL p) F (.ref ch) ∧
  Dq K F (.ref sz) (.dict (szL p)) ∧ IsTD K (kdL p) F (.ref kd) ∧ IsTD K (caL p) F (.ref ca) ∧ IsTD K (faL p) F (.ref fa) ∧ H0 tb = none ∧ H0 sz = none
theorem IsSchN.is {H0 F : Hp} {p : List Tab} {v : V} (h : IsSchN K C H0 p F v) : IsSch K C p F v := by
  obtain ⟨a, dx, tb, ch, sz, kd, ca, fa, h1, h2, h3, h4, h5, h6, h7, h8, _⟩ := h
  exact ⟨a, dx, tb, ch, sz, kd, ca, fa, h1, h2, h3, h4, h5, h6, h7, h8⟩
def spInit (K : PySem.W.Frag) (C : Addr) : Sp := fun vs H Q E => ∃ (x dx : Addr) (v : V) (H0 F : Hp) (B : Base) (b : Nat) (d : PyData), vs = [.ref x, v] ∧ H = L2.upd (L2.upd H0 dx (.own x)) x (.ins C dx []) ∧ H0 x = none ∧ H0 dx = none ∧ dx ≠ x ∧
  Sr K B b F H0 ∧ B.F0 = F ∧ B.H0 = H0 ∧ B.T = [] ∧ B.free = true ∧ B.lk = [] ∧ Dq K F v d ∧ small d = true ∧ (∀ ds, d = .dict ds → (ds.map (·.1)).Nodup) ∧
  (∀ p F' H', d = .dict (p.map planP) → PlanOk p → Sr K B b F' H' → IsSchN K C H0 (sortP p) F' (.ref x) → Q .non H') ∧ (isPlanD d = false → ∀ F' H', Sr K B b F' H' → E (.ref (He.ga K "InvalidSchema")) none H')
theorem ok_init (T : ScT K C) (Z : InT K mg fAT fCh fN fC fT fdAT fdCh fdN fdC fdT) (eS : ErT K mg "InvalidSchema") (hS : SysD K) (F : MtP K 0 "__init__" "Schema.__init__" f fd) : FnOk P w K mg base (L2.CX P w) 5 f fd ["self", "tables"] (spInit K C) := by
  have GA : FnOk P w K mg base CX0 4 fAT fdAT ["thing"] (spT K isPlanD) := ok_aretables Z.tb Z.n Z.c Z.t Z.a
  have bA : Binds K fdAT ["thing"] [] := Z.a.bindsN fun _ _ _ _ _ _ us hl => match us, hl with | [_], _ => rfl
  have GC : FnOk P w K mg base CX0 1 fCh fdCh ["tables"] (spD K 1 true [] spChanges) := ok_changes hS Z.sorted Z.ch
  have bC : Binds K fdCh ["tables"] [] := Z.ch.bindsN fun _ _ _ _ _ _ us hl => match us, hl with | [_], _ => rfl
  refine F.ok scInit (fun vs H Q E h => ?_) (fun cdv A outer s H vs Q E hr h => ⟨_, pss_cons (ps_if (pt_not (pt_val (pe_call GA hr (by rfl) Z.gA Z.a.kp bA .nil pass0 (pa_cons (pv 1) pa_nil)))) (pss_one (ps_raiseD eS rfl (takes_of rfl rfl rfl rfl) (by rfl))) pss_nil)
    (pss_cons (ps_fld (pv 0) (pe_dc (own := [("table", 2)]) (g := gName 2) (tt := tYes) rfl scInit.nd (pi_list (pe_callB (call_sortedD rfl) (by rfl) Z.sorted (by decide +kernel) (pa_cons (pv 1) pa_nil))) (blkOk_by (N := NI) (sc := defScope (meth 0)) (by decide +kernel)) (fun _ _ _ _ _ => (pg_name (i := 2) scInit.nd rfl (Or.inl rfl))) (fun _ _ _ _ _ => pts_nil) (fun _ _ _ _ _ => pv 2) (fun _ _ _ _ _ => pe_dget (hu_of hr) (pv 1) (pv 2) (fun _ _ => rfl))) (by rfl))
    (pss_cons (ps_fld (pv 0) (pe_dcT (own := [("kind", 3)]) (g := gName 3) (tt := tYes) (hu_of hr) rfl scInit.nd (pi_list (pe_call GC (hr.mono (by decide)) (by rfl) Z.gC Z.ch.kp bC .nil pass0 (pa_cons (pe_fld (pv 0) (by rfl)) pa_nil))) (blkOk_by (N := NI) (sc := defScope (meth 0)) (by decide +kernel)) (fun _ _ _ _ _ => (pg_name (i := 3) scInit.nd rfl (Or.inl rfl))) (fun _ _ _ _ _ => pts_nil) (fun _ _ _ _ _ => pv 3) (fun _ _ _ _ _ => pe_bl)) (by rfl))
    (pss_cons (ps_fld (pv 0) (pe_lock (pe_dc (own := [("table", 2), ("columns", 4), ("flags", 5)]) (g := gTup K 2 (gCons (gName 2) (gCons (gTup K 2 (gCons (gName 4) (gCons (gName 5) gNil))) gNil))) (tt := tYes) rfl scInit.nd (pi_items (pe_fld (pv 0) (by rfl))) (blkOk_by (N := NI) (sc := defScope (meth 0)) (by decide +kernel)) (fun _ _ _ _ _ => (pg_tup rfl (pgs_cons (pg_name (i := 2) scInit.nd rfl (Or.inl rfl)) (pgs_cons (pg_tup rfl (pgs_cons (pg_name (i := 4) scInit.nd rfl (Or.inl rfl)) (pgs_cons (pg_name (i := 5) scInit.nd rfl (Or.inl rfl)) pgs_nil))) pgs_nil)))) (fun _ _ _ _ _ => pts_nil) (fun _ _ _ _ _ => pv 2) (fun _ _ _ _ _ => pe_tup (pa_cons (pe_callB (r := rLenSeq K) (by exact call_len_seq) (by rfl) Z.len PySem.boot_len (pa_cons (pv 4) pa_nil)) (pa_cons (pe_callB (r := rLenSeq K) (by exact call_len_seq) (by rfl) Z.len PySem.boot_len (pa_cons (pv 5) pa_nil)) pa_nil))))) (by rfl))
    (pss_cons (ps_asg (pe_tup (pa_cons pe_dnewT (pa_cons pe_dnewT (pa_cons pe_dnewT pa_nil)))) (pg_tup rfl (pgs_cons (pg_fld (pv 0)) (pgs_cons (pg_fld (pv 0)) (pgs_cons (pg_fld (pv 0)) pgs_nil)))))
    (pss_one (ps_lock (ps_for (passes_of rfl) rfl (pi_items (pe_fld (pv 0) (by rfl))) (pg_tup rfl (pgs_cons (pg_name (i := 2) scInit.nd rfl (Or.inl rfl)) (pgs_cons (pg_tup rfl (pgs_cons (pg_name (i := 4) scInit.nd rfl (Or.inl rfl)) (pgs_cons (pg_name (i := 5) scInit.nd rfl (Or.inl rfl)) pgs_nil))) pgs_nil))) (pss_cons (ps_for (passes_of rfl) rfl (pi_enumT (by rfl) Z.enum (pa_cons (pv 4) pa_nil)) (pg_tup rfl (pgs_cons (pg_name (i := 6) scInit.nd rfl (Or.inl rfl)) (pgs_cons (pg_tup rfl (pgs_cons (pg_name (i := 7) scInit.nd rfl (Or.inl rfl)) (pgs_cons (pg_name (i := 3) scInit.nd rfl (Or.inl rfl)) pgs_nil))) pgs_nil))) (pss_cons (ps_dput (hu_of hr) (pe_fld (pv 0) (by rfl)) (pe_tup (pa_cons (pv 2) (pa_cons (pv 7) pa_nil))) (pv 3) (by rfl))
    (pss_one (ps_dput (hu_of hr) (pe_fld (pv 0) (by rfl)) (pe_tup (pa_cons (pv 2) (pa_cons (pv 7) pa_nil))) (pv 6) (by rfl)))))
    (pss_one (ps_for (passes_of rfl) rfl (pi_enumT (by rfl) Z.enum (pa_cons (pv 5) pa_nil)) (pg_tup rfl (pgs_cons (pg_name (i := 6) scInit.nd rfl (Or.inl rfl)) (pgs_cons (pg_name (i := 8) scInit.nd rfl (Or.inl rfl)) pgs_nil))) (pss_one (ps_dput (hu_of hr) (pe_fld (pv 0) (by rfl)) (pe_tup (pa_cons (pv 2) (pa_cons (pv 8) pa_nil))) (pv 6) (by rfl))))))))))))), ?_⟩)
  · obtain ⟨x, dx, v, H0, F, B, b, d, rfl, _⟩ := h
    rfl
  · obtain ⟨x, dx, v, H0, F0, B, b, d, rfl, rfl, nx, ndx, dxx, s0, eF, eH, eT, ef, el, hd, hsm, hnd, kOk, kBad⟩ := h
    have nx' : (L2.upd H0 dx (.own x)) x = none := by rw [upd_ne (Ne.symm dxx)]; exact nx
    have Fx : F0 x = none := s0.non nx
    have h0x : B.H0 x = none := by rw [eH]; exact nx
    have f0x : B.F0 x = none := by rw [eF]; exact Fx
    have s1 : Sr K B b F0 (L2.upd (L2.upd H0 dx (.own x)) x (.ins C dx [])) := (s0.grow (Ex.new ndx)).grow (Ex.new nx')
    have s2 : Sr K B b (L2.upd F0 x (.ins C dx [])) (L2.upd (L2.upd H0 dx (.own x)) x (.ins C dx [])) := s1.freeze upd_same h0x Fx (fun _ _ z => nomatch z) (fun _ z => nomatch z)
    obtain ⟨F1, eF1⟩ : ∃ F1, L2.upd F0 x (.ins C dx []) = F1 := ⟨_, rfl⟩
    obtain ⟨H1, eH1⟩ : ∃ H1, L2.upd (L2.upd H0 dx (.own x)) x (.ins C dx []) = H1 := ⟨_, rfl⟩
    rw [eF1, eH1] at s2
    have hd1 : Dq K F1 v d := eF1 ▸ hd.up (Ex.new Fx)
    have fx1 : F1 x = some (.ins C dx []) := eF1 ▸ upd_same
    rw [eH1]
    clear eF1 eH1 s1
    have self0 : ∀ (fs : List (Str × V)) (F : Hp), F x = some (.ins C dx fs) → Df K B F (.ref x) (.mp fun F v => v = .ref x ∧ F x = some (.ins C dx fs)) := fun fs F h F' e => ⟨rfl, e _ _ h⟩
    have d0 : Sd K B _ b (L2.start NI [.ref x, v]) F1 H1 := Sd.start (N := NI) s2 (.cons (self0 [] F1 fx1) (.cons (show Df K B F1 v (.dat d) from hd1) .nil)) (show 2 ≤ 9 by decide)
    -- if not _are_tables(tables)
    have A0 : Me K B (tCall (spT K isPlanD) [] E0 (tCons (tVar 1) tNil)) _ b fun e b1 => e = .dat (.bool (isPlanD d)) ∧ b1 = b := me_callV (ma_cons (me_var (i := 1) (e := .dat d) (δ := [some (.mp fun F v => v = .ref x ∧ F x = some (.ins C dx [])), some (.dat d), none, none, none, none, none, none, none]) (ma_nil (cd_are (f := isPlanD) (d := d) ⟨ef, el⟩ hsm hnd ⟨rfl, rfl⟩))))
    refine st_seq (st_if ((mt_not (S := fun k b1 => k = !isPlanD d ∧ b1 = b) (mt_B (A0.mono fun e b1 ⟨z1, z2⟩ => ⟨_, z1, rfl, z2⟩))) _ F1 H1 d0 _ fun k b1 F2 H2 ⟨hk, hb⟩ s3 g3 => ?_))
    subst hk
    rw [hb] at s3
    cases hp : isPlanD d with
    | false => exact kBad hp F2 H2 s3
    | true =>
      obtain ⟨ps, rfl⟩ : ∃ ps, d = .dict ps := by
        cases d with
        | dict ps => exact ⟨ps, rfl⟩
        | _ => cases hp
      obtain ⟨p, rfl, pOk⟩ := plan_of hp (hnd ps rfl)
      rw [if_neg (by decide)]
      refine st_next (st_seq ?_)
      obtain ⟨q, eq⟩ : ∃ q, sortP p = q := ⟨_, rfl⟩
      have qp : q.Perm p := eq ▸ sortP_perm p
      have qOk : PlanOk q := pOk.perm qp
      have fx2 := g3.ex _ _ fx1
      have hd2 : Dq K F2 v (.dict (p.map planP)) := hd1.up g3.ex
      -- self._tables
      have A1 : Me K B (tDc (iList K (tCB rSortedD (tCons (tVar 1) tNil))) (gName 2) tYes (tVar 2) (tDGet (tVar 1) (tVar 2)) [2]) [some (.mp fun F v => v = .ref x ∧ F x = some (.ins C dx [])), some (.dat (.dict (p.map planP))), none, none, none, none, none, none, none] b fun e b1 => e.isOwn = true ∧ e.fz = .dat (.dict (q.map planP)) ∧ b1 = b := by
        refine me_dcL (mi_list (me_cb (ma_cons (me_var (ma_nil ?_)))))
        refine cd_sortK (ks := p.map (·.1)) ?_ ?_ ⟨_, rfl, ?_, q.map planK, ?_, ?_, ?_, rfl, ?_, rfl⟩
        · rw [List.map_map, List.map_map] <;> rfl
        · rw [List.length_map]
          have := pOk.n4
          omega
        · rw [List.length_map]
          have := (sortS_perm (p.map (·.1))).length_eq
          rw [this, List.length_map]
          have := pOk.n4
          omega
        · rw [List.length_map, List.length_map, (sortS_perm (p.map (·.1))).length_eq, List.length_map, qp.length_eq]
        · have : (q.map planK).map (fun r => keyD r.1) = (q.map (·.1)).map PyData.str := by
            rw [List.map_map, List.map_map] <;> rfl
          rw [this]
          exact List.Pairwise.map PyData.str (fun a b h z => h (by cases z; rfl)) qOk.nd
        · intro i y r hy hr'
          obtain ⟨t, ht, rfl⟩ := get_map hr'
          have hy' : y = .str t.1 := by
            rw [← sortP_names, eq, List.map_map, List.getElem?_map, ht] at hy
            exact (Option.some.inj hy).symm
          subst hy'
          have tm : t ∈ p := qp.mem_iff.mp (List.mem_of_getElem? ht)
          exact me_var ⟨rfl, me_dget (me_var (me_var ⟨_, .inr t.1, _, rfl, rfl, look_mem pOk.nd tm, rfl, rfl⟩))⟩
        · have : (q.map planK).map (fun r => (keyD r.1, r.2)) = q.map planP := by
            rw [List.map_map] <;> rfl
          rw [this] <;> rfl
      have d2 : Sd K B _ b (L2.start NI [.ref x, v]) F2 H2 := Sd.start (N := NI) s3 (.cons (self0 [] F2 fx2) (.cons (show Df K B F2 v (.dat (.dict (p.map planP))) from hd2) .nil)) (show 2 ≤ 9 by decide)
      refine st_seq (st_fldN (Rest := fun e b1 => e = .dat (.dict (q.map planP)) ∧ b1 = b) d2 A1 rfl T.cls (T.no _ (by decide +kernel)) (by decide) fx2 h0x f0x fun y e b1 F3 H3 ⟨tb, etb, ntb⟩ ⟨he, hb⟩ s4 dy fx3 e23 => ?_)
      subst he
      rw [hb] at s4
      have fy4 : (L2.upd F3 x (.ins C dx (putF "_tables" y []))) x = some (.ins C dx (fsA y)) := upd_same
      have dy4 : Dq K (L2.upd F3 x (.ins C dx (putF "_tables" y []))) y (.dict (q.map planP)) := dq_re fx3 True.intro _ _ dy
      obtain ⟨F4, eF4⟩ : ∃ F4, L2.upd F3 x (.ins C dx (putF "_tables" y [])) = F4 := ⟨_, rfl⟩
      obtain ⟨H4, eH4⟩ : ∃ H4, L2.upd H3 x (.ins C dx (putF "_tables" y [])) = H4 := ⟨_, rfl⟩
      rw [eF4, eH4] at s4
      rw [eF4] at fy4 dy4
      show tSeq _ _ _ _ (L2.upd H3 x (.ins C dx (putF "_tables" y [])))
      rw [eH4]
      clear eF4 eH4
      -- self._changes
      have A2 : Me K B (tDcT (iList K (tCall (spD K 1 true [] spChanges) [] E0 (tCons (tFld K (tVar 0) "_tables") tNil))) (gName 3) tYes (tVar 3) (tC (.bl true)) [3]) [some (.mp (Part K x C dx (fsA y) y (q.map planP))), none, none, none, none, none, none, none, none] b fun e b1 => e.fz = .mp (IsTD K (chL q)) ∧ b1 = b := by
        refine me_dcTL (mi_list (me_call (.inl rfl) (fun _ => ⟨ef, el⟩) (ma_cons (part_fld rfl T.cls (T.no _ (by decide +kernel)) (ma_nil ?_)))))
        refine ⟨rfl, q, rfl, qOk, _, rfl, ?_, chL q, ?_, chL_nd qOk, ?_, rfl, rfl⟩
        · rw [List.length_map, (sortT_perm _).length_eq]
          have h1 := kindsS_len (p := q) qOk.tb
          have h2 := qOk.n4
          omega
        · unfold chL
          rw [List.length_map, List.length_map]
        · intro i z r hz hr'
          obtain ⟨z1, hz1, rfl⟩ := get_map hz
          obtain ⟨z2, hz2, rfl⟩ := get_map hr'
          rw [hz1] at hz2
          cases hz2
          exact me_var ⟨rfl, me_bl ⟨rfl, rfl⟩⟩
      have part1 : Df K B F4 (.ref x) (.mp (Part K x C dx (fsA y) y (q.map planP))) := fun F' e => ⟨rfl, e _ _ fy4, dy4.up e⟩
      have d4 : Sd K B [some (.mp (Part K x C dx (fsA y) y (q.map planP))), none, none, none, none, none, none, none, none] b (L2.start NI [.ref x, v]) F4 H4 := sd_self s4 part1
      refine st_seq (st_fld (fs := (fsA y)) (Rest := fun e b1 => e = .mp (IsTD K (chL q)) ∧ b1 = b) d4 A2 rfl T.cls (T.no _ (by decide +kernel)) (show 1 < 1000 by decide) fy4 h0x f0x fun y2 e b1 F5 H5 ⟨he, hb⟩ s5 dy2 fx5 e45 => ?_)
      subst he
      rw [hb] at s5
      obtain ⟨ch, kch, e2, hch, hch2, hch3⟩ := mp_at (K := K) (B := B) dy2
      subst e2
      have nch : ch ≠ x := fun z => by
        rw [z, fx5] at hch
        cases hch
      have fs2 : putF "_changes" (.ref ch) (fsA y) = (fsB y (.ref ch)) := rfl
      rw [fs2] at s5 ⊢
      have fy6 : (L2.upd F5 x (.ins C dx (fsB y (.ref ch)))) x = some (.ins C dx (fsB y (.ref ch))) := upd_same
      have dy6 : Dq K (L2.upd F5 x (.ins C dx (fsB y (.ref ch)))) y (.dict (q.map planP)) := dq_re fx5 True.intro _ _ (dy4.up e45)
      have dc6 : IsTD K (chL q) (L2.upd F5 x (.ins C dx (fsB y (.ref ch)))) (.ref ch) := IsTD.re fx5 True.intro nch ⟨ch, kch, rfl, hch, hch2, hch3⟩
      obtain ⟨F6, eF6⟩ : ∃ F6, L2.upd F5 x (.ins C dx (fsB y (.ref ch))) = F6 := ⟨_, rfl⟩
      obtain ⟨H6, eH6⟩ : ∃ H6, L2.upd H5 x (.ins C dx (fsB y (.ref ch))) = H6 := ⟨_, rfl⟩
      rw [eF6, eH6] at s5
      rw [eF6] at fy6 dy6 dc6
      show tSeq _ _ _ _ (L2.upd H5 x (.ins C dx (fsB y (.ref ch))))
      rw [eH6]
      clear eF6 eH6
      -- self._sizes
      have A3 : Me K B (tLockE (tDc (iItems (tFld K (tVar 0) "_tables")) (gTup K 2 (gCons (gName 2) (gCons (gTup K 2 (gCons (gName 4) (gCons (gName 5) gNil))) gNil))) tYes (tVar 2) (tTup (tCons (tCB (rLenSeq K) (tCons (tVar 4) tNil)) (tCons (tCB (rLenSeq K) (tCons (tVar 5) tNil)) tNil))) [2, 4, 5]))
          [some (.mp (Part K x C dx (fsB y (.ref ch)) y (q.map planP))), none, none, none, none, none, none, none, none] b fun e b1 => e.isOwn = true ∧ e.fz = .dat (.dict (szL q)) ∧ b1 = b := by
        refine me_dcI (is := [4, 5]) (n := 2) (dk_part' ⟨ef, el⟩ rfl T.cls (T.no _ (by decide +kernel))) ?_ (q.map fun t => (.inr t.1, .tuple [.int (t.2.1.length : Int), .int (t.2.2.length : Int)])) ?_ ?_ ?_ ?_
        · rw [List.length_map]
          have := qOk.n4
          omega
        · rw [List.length_map, List.length_map]
        · rw [List.map_map]
          have : (q.map ((fun p : Key × PyData => keyD p.1) ∘ fun t : Tab => (Sum.inr t.1, PyData.tuple [.int (t.2.1.length : Int), .int (t.2.2.length : Int)]))) = (q.map (·.1)).map PyData.str := by
            rw [List.map_map] <;> rfl
          rw [this]
          exact List.Pairwise.map PyData.str (fun a b h z => h (by cases z; rfl)) qOk.nd
        · intro d' o i r1 r2 h1 h2
          obtain ⟨t, ht, rfl⟩ := get_map h1
          obtain ⟨t', ht', rfl⟩ := get_map h2
          rw [ht] at ht'
          cases ht'
          refine ⟨[.tuple (t.2.1.map colD), .tuple (t.2.2.map .str)], rfl, rfl, me_var ⟨rfl, me_tup (ma_cons (me_cb (ma_cons (me_var (ma_nil ?_)))))⟩⟩
          refine cd_lenT ?_
          refine ma_cons (me_cb (ma_cons (me_var (ma_nil ?_))))
          refine cd_lenT ?_
          refine ma_nil ⟨_, rfl, le2, ?_, rfl⟩
          rw [List.length_map, List.length_map] <;> rfl
        · refine ⟨rfl, ?_, rfl⟩
          unfold szL
          rw [List.map_map] <;> rfl
      have d6 : Sd K B [some (.mp (Part K x C dx (fsB y (.ref ch)) y (q.map planP))), none, none, none, none, none, none, none, none] b (L2.start NI [.ref x, v]) F6 H6 := sd_self s5 fun F' e => ⟨rfl, e _ _ fy6, dy6.up e⟩
      refine st_seq (st_fldN (fs := (fsB y (.ref ch))) (Rest := fun e b1 => e = .dat (.dict (szL q)) ∧ b1 = b) d6 A3 rfl T.cls (T.no _ (by decide +kernel)) (show 2 < 1000 by decide) fy6 h0x f0x fun y3 e b1 F7 H7 ⟨sz, esz, nsz⟩ ⟨he, hb⟩ s7 dy3 fx7 e67 => ?_)
      subst he
      rw [hb] at s7
      have fs3 : putF "_sizes" y3 (fsB y (.ref ch)) = fsC y (.ref ch) y3 := rfl
      rw [fs3] at s7 ⊢
      have q8 : Q3 K q y ch y3 F7 := ⟨dy6.up e67, dc6.up e67, dy3⟩
      refine st_seq (st_new3 (F := L2.upd F7 x (.ins C dx (fsC y (.ref ch) y3))) (q := q) T.cls T.no s7 upd_same (q8.re fx7 True.intro nch) rfl h0x f0x ef el fun F9 H9 kd ca fa g => ?_)
      refine st_tables T.cls T.no g el qOk (kdL_nd qOk) (caL_nd qOk) (faL_nd qOk) (lens_ok qOk) fun F10 H10 σ g2 => ?_
      refine kOk p F10 H10 rfl pOk g2.sr ?_
      rw [eq]
      subst etb esz
      exact ⟨x, dx, tb, ch, sz, kd, ca, fa, rfl, g2.fx, g2.q3.1, g2.q3.2.1, g2.q3.2.2, g2.k1, g2.k2, g2.k3, eH ▸ ntb, eH ▸ nsz⟩
end
end K01
set_option Elab.async false
set_option linter.all false
set_option maxRecDepth 100000
set_option maxHeartbeats 4000000
/-! the data level: the pen -/
namespace Dl
open PySem PySem.Spec PyProof.Rows L2 Evl Gd LamX K01
section
variable {K : PySem.W.Frag} {B : Base} {F F' H H' : Hp} {v : V} {e : Dv} {δ : Env} {b n : Nat} {σ : L2.St} {tu te tr : TE} {R : Dv → Nat → Prop} {j : Nat} {p a : Addr} {ns : List Int}
theorem Sr.less (s : Sr K B b F H) (h : n ≤ b) : Sr K B n F H := ⟨s.le, s.nfz, s.ntb, s.ex0, s.fr, s.dom, s.frN, s.free, s.lkd, s.tabs, s.tb0, fun p a ns h' => by
  obtain ⟨h1, h2, h3, h4, i, d, h5, h6, h7⟩ := s.pen p a ns h'
  exact ⟨h1, h2, h3, h4, i, d, h5, h6, by omega⟩⟩
theorem Sd.lessB (s : Sd K B δ b σ F H) (h : n ≤ b) : Sd K B δ n σ F H := ⟨s.toSr.less h, s.len, s.at_, s.apart⟩
theorem me_less (h : n ≤ b) (m : Me K B te δ n R) : Me K B te δ b R := fun σ F H s Q k => m σ F H (s.lessB h) Q k
/-- after draws -/
theorem Sr.drawn (s : Sr K B (b + n) F H) (hp : B.pn = some (p, a, ns)) {i i' d' : Int} {d : Int} (hi : H p = some (.lst [.ref a, .int i, .int d])) (h1 : i ≤ i') (h2 : i' ≤ i + n) (hP : PenH H' p a ns i' d') (bt : But p H H') : Sr K B b F H' ∧ Go B F H F H' := by
  obtain ⟨q1, q2, q3, q4, i0, d0, q5, q6, q7⟩ := s.pen p a ns hp
  rw [hi] at q5
  cases q5
  have hot : B.hot p := .inl ⟨a, ns, hp⟩
  have kp : ∀ c o, H c = some o → c ≠ p → H' c = some o := fun c o h n => bt c o n h
  refine ⟨{ le := fun c u h => ?_, nfz := s.nfz, ntb := s.ntb, ex0 := s.ex0, fr := fun c o h m l => ?_, dom := fun c h => ?_, frN := s.frN, free := fun f c u h l => ?_, lkd := fun q hq => ?_, tabs := fun q hq => ?_, tb0 := s.tb0, pen := fun p' a' ns' h => ?_ }, Ex.refl F, fun c o h m => ?_, fun _ _ f _ => .of f⟩
  · have e : c ≠ p := fun e => by rw [e, q2] at h; cases h
    rcases s.le c u h with z | ⟨z, o, y⟩
    · exact .inl (kp _ _ z e)
    · exact .inr ⟨z, o, kp _ _ y e⟩
  · have e : c ≠ p := fun e => m (e ▸ hot)
    exact kp _ _ (s.fr c o h m l) e
  · by_cases e : c = p
    · subst e
      rw [hP.1]
      exact fun z => nomatch z
    · have z := s.dom c h
      cases q : H c with
      | none => exact absurd q z
      | some u =>
        rw [kp _ _ q e]
        exact fun z => nomatch z
  · have e : c ≠ p := fun e => by rw [e, q2] at h; cases h
    exact kp _ _ (s.free f c u h l) e
  · obtain ⟨u, h2, h3, h4⟩ := s.lkd q hq
    have e : q.1 ≠ p := fun e => by rw [e, q2] at h4; cases h4
    exact ⟨u, h2, kp _ _ h3 e, h4⟩
  · obtain ⟨ps, t1, t2, t3⟩ := s.tabs q hq
    have e : q.1 ≠ p := fun e => by
      rw [e, hi] at t1
      cases t1
    refine ⟨ps, kp _ _ t1 e, t2, fun pos cv hc => ?_⟩
    obtain ⟨c, c1, c2⟩ := t3 pos cv hc
    have e2 : c ≠ p := fun e => by
      rw [e, hi] at c2
      unfold CodeO at c2
      cases c2
    exact ⟨c, c1, kp _ _ c2 e2⟩
  · rw [hp] at h
    cases h
    refine ⟨q1, q2, q3, q4, i', d', hP.1, by omega, by omega⟩
  · have e : c ≠ p := fun e => m (e ▸ hot)
    exact kp _ _ h e
theorem pen_at (s : Sr K B b F H) (hp : B.pn = some (p, a, ns)) : ∃ i d : Int, PenH H p a ns i d ∧ i + (b : Int) ≤ 2 ^ 39 ∧ H p = some (.lst [.ref a, .int i, .int d]) := by
  obtain ⟨q1, q2, q3, q4, i0, d0, q5, q6, q7⟩ := s.pen p a ns hp
  exact ⟨i0, d0, ⟨q5, s.exact q3 (fun z => z), q4, q6⟩, q7, q5⟩
/-- _law_draw(pen, u) -/
theorem cd_draw {E : XK} {u : Int} (h1 : 1 ≤ u) (h2 : u < 1000000) (k : ∀ g : Int, 0 ≤ g → g < u → R (.dat (.int g)) b) : CallD K B (fun vs H Q => spDraw vs H Q E) [.pen, .dat (.int u)] (b + 1) R := fun F H s vs hd Q q => by
  obtain ⟨v, w, rfl, d1, d2⟩ := df2 hd
  obtain ⟨p, a, ns, hp, rfl⟩ := (show ∃ p a ns, B.pn = some (p, a, ns) ∧ v = .ref p from d1)
  cases (show Dq K F w (.int u) from d2)
  obtain ⟨i, d, hP, hi, hL⟩ := pen_at s hp
  refine ⟨p, a, ns, i, d, u, rfl, hP, by omega, h1, h2, fun g i' d' H' g0 g1 i1 i2 hP' bt => ?_⟩
  obtain ⟨s2, g2⟩ := s.drawn (n := 1) hp hL i1 (by omega) hP' bt
  exact q _ _ b F H' (k g g0 g1) s2 g2 (.int g) (Nw.no rfl)
/-- _law_name(pen) -/
theorem cd_name {E : XK} (k : ∀ x : Str, isNameS x = true → R (.dat (.str x)) b) : CallD K B (fun vs H Q => spName vs H Q E) [.pen] (b + 9) R := fun F H s vs hd Q q => by
  obtain ⟨v, rfl, d1⟩ := df1 hd
  obtain ⟨p, a, ns, hp, rfl⟩ := (show ∃ p a ns, B.pn = some (p, a, ns) ∧ v = .ref p from d1)
  obtain ⟨i, d, hP, hi, hL⟩ := pen_at s hp
  refine ⟨p, a, ns, i, d, rfl, hP, by omega, fun x i' d' H' hx i1 i2 hP' bt => ?_⟩
  obtain ⟨s2, g2⟩ := s.drawn (n := 9) hp hL i1 (by omega) hP' bt
  exact q _ _ b F H' (k x hx) s2 g2 (.str x) (Nw.no rfl)
end
end Dl
namespace K01
open PySem PySem.Spec PyProof.Rows L2 Gd Evl Dl
section
variable {K : PySem.W.Frag} {B : Base} {δ : Dl.Env} {b n : Nat} {ta te : TE} {tr : TA} {R : Dv → Nat → Prop} {C : Addr} {X : XK}
/-- Schema(..) -/
theorem me_make (hX : B.XE = X) (hBX : BX K B) (hu : B.free = true ∧ B.lk = [])
    (h : MA K B tr δ b fun es b1 => ∃ d, es = [.dat d] ∧ small d = true ∧ (∀ ds, d = .dict ds → (ds.map (·.1)).Nodup) ∧ (∀ p, d = .dict (p.map planP) → PlanOk p → R (.mp (IsSch K C (sortP p))) b1) ∧ (isPlanD d = false → B.RX (He.ga K "InvalidSchema") b1)) :
    Me K B (tMake C (spInit K C) [] X tr) δ b R := fun σ F H s Q k =>
  h σ F H s _ fun vs es b1 F1 H1 ⟨d, e, hs, hn, kOk, kBad⟩ s1 g1 d1 x dx nx ndx ne => by
    subst e hX
    obtain ⟨v, rfl, dv⟩ := df1 d1
    rw [List.append_nil]
    refine ⟨x, dx, v, H1, F1, B.sub F1 H1 [] B.RX B.XE, b1, d, rfl, rfl, nx, ndx, ne, s1.sub (.inl rfl), rfl, rfl, rfl, hu.1, hu.2, dv, hs, hn, fun p F' H' e ok s' is => ⟨rfl, ?_⟩, fun hb F' H' s' => ?_⟩
    · obtain ⟨s2, g2⟩ := s1.after (.inl rfl) s'
      exact k _ _ b1 F' H' (kOk p e ok) s2 (g1.trans g2) (fun F2 x2 => is.is.up x2) (Nw.no rfl)
    · exact hBX _ b1 F' H' (kBad hb) (s1.after (.inl rfl) s').1
/-- schema.f, a property -/
theorem me_propS {S : DSpec} {ul : Bool} (hu : ul = true → B.free = true ∧ B.lk = []) (h : Me K B ta δ b fun x b1 => ∃ p, x = .mp (IsSch K C p) ∧ S [.mp (IsSch K C p)] b1 R fun _ _ => False) : Me K B (tProp C (spD K 1 ul [] S) [] X ta) δ b R := fun σ F H s Q k =>
  h σ F H s _ fun v x b1 F1 H1 ⟨p, e1, hs⟩ s1 g1 d1 _ => by
    subst e1
    have dv : Df K B F1 v (.mp (IsSch K C p)) := d1
    obtain ⟨a, dx, tb, ch, sz, kd, ca, fa, rfl, hF, _⟩ := mp_at (K := K) (B := B) dv
    refine ⟨a, dx, _, rfl, s1.exact hF (fun z => z), ?_⟩
    exact callD (.inl rfl) (fun _ _ _ _ z => z.elim) rfl hu hs F1 H1 s1 _ (.cons dv .nil) Q fun v e b2 F2 H2 r2 s2 g2 d2 a2 => k v e b2 F2 H2 r2 s2 (g1.trans g2) d2 (a2.back g1 s1)
/-- schema.m(..), nothing raised -/
theorem sch_meth {m : Str} {S : DSpec} {ul : Bool} (hu : ul = true → B.free = true ∧ B.lk = []) (hm : ((schFs 0 0 0 0 0 0).lookup m).isNone = true)
    (h : Me K B te δ b fun x b1 => ∃ p, x = .mp (IsSch K C p) ∧ MA K B tr δ b1 fun es b2 => es.length + 1 = n ∧ S (.mp (IsSch K C p) :: es) b2 R fun _ _ => False) : Me K B (tMeth C m (spD K n ul [] S) [] X te tr) δ b R := by
  refine me_methV (h.mono fun x b1 ⟨p, e, ha⟩ => ⟨_, e, fun F v ⟨a, dx, tb, ch, sz, kd, ca, fa, h1, h2, _⟩ => ⟨a, dx, _, h1, h2, ?_⟩, fun σ F H s Q k => ha σ F H s Q fun vs es b2 F2 H2 ⟨h1, h2⟩ => k vs es b2 F2 H2 (callD (.inl rfl) (fun _ _ _ _ z => z.elim) h1 hu h2)⟩)
  unfold schFs at hm ⊢
  simp only [List.lookup_cons] at hm ⊢
  revert hm
  repeat' split
  all_goals first | (intro h; cases h; done) | (intro; rfl)
end
end K01
set_option Elab.async false
set_option linter.all false
set_option maxRecDepth 100000
set_option maxHeartbeats 4000000
/-! the data level: more operations -/
namespace Dl
open PySem PySem.Spec PyProof.Rows L2 Evl Gd LamX
/-- without p -/
def delF (F : Hp) (p : Addr) : Hp := fun a => if a = p then none else F a
theorem delF_same {F : Hp} {p : Addr} : delF F p p = none := if_pos rfl
theorem delF_ne {F : Hp} {p a : Addr} (h : a ≠ p) : delF F p a = F a := if_neg h
/-- whole in itself -/
def Flat : Dv → Prop
  | .dat .none => True
  | .dat (.bool _) => True
  | .dat (.int _) => True
  | .dat (.str _) => True
  | _ => False
section
variable {K : PySem.W.Frag} {B : Base} {F F' H H' : Hp} {v : V} {e : Dv} {δ : Env} {b : Nat} {σ : L2.St} {d : PyData} {ds as bs : List PyData} {ta tb te tk tv : TE} {R : Dv → Nat → Prop} {E : Ed} {D : Ends} {i : Nat} {p : Addr}
theorem Sr.unfz (s : Sr K B b F H) (hl : ∀ q ∈ B.lk, q.1 ≠ p) (f0 : B.F0 p = none) (hp : ∀ x a ns, B.pn = some (x, a, ns) → a ≠ p) : Sr K B b (delF F p) H where
  le := fun a u h => by
    by_cases e : a = p
    · rw [e, delF_same] at h
      cases h
    · rw [delF_ne e] at h
      exact s.le a u h
  nfz := fun a o u h => by
    by_cases e : a = p
    · rw [e, delF_same] at h
      cases h
    · rw [delF_ne e] at h
      exact s.nfz a o u h
  ntb := fun a u h => by
    by_cases e : a = p
    · rw [e, delF_same] at h
      cases h
    · rw [delF_ne e] at h
      exact s.ntb a u h
  ex0 := fun a u h => by
    have e : a ≠ p := fun e => by rw [e, f0] at h; cases h
    rw [delF_ne e]
    exact s.ex0 a u h
  fr := s.fr
  dom := s.dom
  frN := fun a h1 h2 => by
    by_cases e : a = p
    · rw [e, delF_same]
      exact .non
    · rw [delF_ne e]
      exact s.frN a h1 h2
  free := fun f a u h l => by
    by_cases e : a = p
    · rw [e, delF_same] at h
      cases h
    · rw [delF_ne e] at h
      exact s.free f a u h l
  lkd := fun q hq => by
    obtain ⟨u, h2, h3, h4⟩ := s.lkd q hq
    exact ⟨u, h2, h3, by rw [delF_ne (hl q hq)]; exact h4⟩
  tabs := s.tabs
  tb0 := fun q hq => by
    obtain ⟨h1, h2⟩ := s.tb0 q hq
    refine ⟨h1, ?_⟩
    by_cases e : q.1 = p
    · rw [e, delF_same]
    · rw [delF_ne e]
      exact h2
  pen := fun q a ns h => by
    obtain ⟨h1, h2, h3, h4, h5⟩ := s.pen q a ns h
    refine ⟨h1, ?_, by rw [delF_ne (hp q a ns h)]; exact h3, h4, h5⟩
    by_cases e : q = p
    · rw [e, delF_same]
    · rw [delF_ne e]
      exact h2
theorem Flat.df (f : Flat e) (h : Dr K B F H v e) : Df K B F' v e := by
  cases e with
  | dat d =>
    cases d <;> first | exact f.elim | skip
    all_goals (cases (show Dq K F v _ from h))
    · exact Dq.non
    · exact Dq.bl _
    · exact Dq.int _
    · exact Dq.str _
  | _ => exact f.elim
/-- what a slot owns is looked at, not kept -/
theorem me_thaw {i : Nat} (h : Me K B te (δ.set i (some (.dat (.list ds)))) b fun e b1 => Flat e ∧ R e b1) (hi : δ[i]? = some (some (.own ds)) := by rfl) : Me K B te δ b R := fun σ F H s Q k => by
  obtain ⟨v, h1, p, vs, rfl, h0, hF, hH, hd⟩ := s.at_ i _ hi
  obtain ⟨F1, x, s1⟩ : ∃ F1, F1 = L2.upd F p (.lst vs) ∧ Sd K B (δ.set i (some (.dat (.list ds)))) b σ F1 H := by
    have hil := (List.getElem?_eq_some_iff.mp hi).1
    have x := Ex.new (H := F) (p := p) (o := .lst vs) hF
    refine ⟨_, rfl, s.toSr.freeze hH h0 hF (fun _ _ z => nomatch z) (fun _ z => nomatch z), by rw [List.length_set, s.len], fun j ej q => ?_, fun j k ej ek w ne hj hk oj ok => ?_⟩
    · by_cases z : i = j
      · subst z
        rw [List.getElem?_set_self hil] at q
        cases q
        exact ⟨_, h1, Dq.lst (.inl upd_same) (hd.up x)⟩
      · rw [List.getElem?_set_ne z] at q
        obtain ⟨v, k1, k2⟩ := s.at_ j ej q
        refine ⟨v, k1, k2.go x fun oj q' w e1 e2 f _ => ⟨e2, ?_⟩⟩
        have : q' ≠ p := fun y => s.apart i j _ ej _ z hi q rfl oj h1 (by rw [k1, e1, y])
        rw [upd_ne this]
        exact f
    · have no : ∀ (m : Nat) (em : Dv), (δ.set i (some (.dat (.list ds))))[m]? = some (some em) → em.isOwn = true → δ[m]? = some (some em) := fun m em h om => by
        by_cases z : i = m
        · subst z
          rw [List.getElem?_set_self hil] at h
          cases h
          cases om
        · rw [List.getElem?_set_ne z] at h
          exact h
      exact s.apart j k ej ek w ne (no j ej hj oj) (no k ek hk ok) oj ok
  refine h σ F1 H s1 Q fun w e b2 F2 H2 ⟨fl, r⟩ s2 g2 d2 n2 => ?_
  have hF1 : F1 p = some (.lst vs) := x ▸ upd_same
  have hF2 := g2.ex _ _ hF1
  have hpn : ∀ y a ns, B.pn = some (y, a, ns) → a ≠ p := fun y a ns h => fun e => by
    have := (s.pen y a ns h).2.2.1
    rw [e, hF] at this
    cases this
  have f0 := K01.ex0_none s.toSr hF
  have hlk : ∀ q ∈ B.lk, q.1 ≠ p := fun q hq e => by
    obtain ⟨u, _, _, z⟩ := s.lkd q hq
    rw [e, hF] at z
    cases z
  refine k w e b2 (delF F2 p) H2 r (s2.unfz hlk f0 hpn) ⟨fun a u h => ?_, g2.kp, fun a h1 h2 h3 => ?_⟩ (Dr.of (fl.df d2)) (Nw.no ?_)
  · have ne : a ≠ p := fun e => by rw [e, hF] at h; cases h
    rw [delF_ne ne]
    exact g2.ex _ _ (by rw [x, upd_ne ne]; exact h)
  · by_cases e : a = p
    · rw [e, delF_same]
      exact .non
    · rw [delF_ne e]
      exact g2.nw a h1 (by rw [x, upd_ne e]; exact h2) h3
  · cases e <;> first | rfl | exact fl.elim
/-- for s in text -/
theorem WalkD.str {z : Str} : WalkD K B F (Its z) (z.cps.toList.map fun c => .str ⟨#[c]⟩) := by
  have e : (z.cps.toList.map fun c => PyData.str ⟨#[c]⟩).length = z.cps.size := by
    rw [List.length_map, Array.length_toList]
  refine ⟨_, _, e ▸ walk_str, fun _ _ _ _ _ => True.intro, fun i v b2 F2 H2 H3 d x s y hi => ?_⟩
  obtain ⟨rfl, c, hc, rfl⟩ := y
  obtain ⟨c', hc', rfl⟩ := get_map hi
  rw [Array.getElem?_toList, hc] at hc'
  cases hc'
  exact ⟨F2, s, Go.refl _ _, .str _⟩
theorem mi_str {R : List PyData → Nat → Prop} (h : Me K B te δ b fun x b1 => ∃ z, x = .dat (.str z) ∧ R (z.cps.toList.map fun c => .str ⟨#[c]⟩) b1) : Mi K B (iStr te) δ b R := fun σ F H s Rr k =>
  h σ F H s _ fun v x b1 F1 H1 ⟨z, e, r⟩ r1 g1 d1 _ => by
    subst e
    cases (show Dq K F1 v (.str z) from d1)
    exact ⟨z, rfl, k _ _ b1 F1 H1 r r1 g1 .str⟩
/-- list + list -/
theorem rd_lst (s : Sr K B b F H) {a : Addr} {xs : List V} (h : Rd F a (.lst xs)) : H a = some (.lst xs) := by
  rcases h with h | ⟨o, h⟩
  · exact s.exact h (fun z => z)
  · exact (xt_no (s.nfz a o _ h) (fun _ z => nomatch z)).elim
theorem dqAll_app {vs ws : List V} : ∀ {as : List PyData} {vs : List V}, DqAll K F vs as → DqAll K F ws bs → DqAll K F (vs ++ ws) (as ++ bs)
  | [], _, h, h2 => by
    cases h
    exact h2
  | a :: as, _, h, h2 => by
    cases h with
    | cons h1 h3 => exact .cons h1 (dqAll_app (vs := vs) h3 h2)
theorem opd_cat {R : Dv → Prop} (hz : as.length + bs.length ≤ 100000) (k : R (.own (as ++ bs))) : OpD K B rCat (.dat (.list as)) (.dat (.list bs)) R := fun b F H s vx vy hx hy Q q => by
  cases (show Dq K F vx (.list as) from hx) with
  | @lst p1 xs _ h1 r1 =>
    cases (show Dq K F vy (.list bs) from hy) with
    | @lst p2 ys _ h2 r2 =>
      refine ⟨p1, p2, xs, ys, rfl, rfl, rd_lst s h1, rd_lst s h2, sz_of (by rw [r1.len, r2.len]; exact hz), fun l hl => ?_⟩
      obtain ⟨s2, g2, d2, n2⟩ := s.newL hl (dqAll_app (vs := xs) r1 r2)
      exact q _ _ F _ k s2 g2 d2 n2
/-- tuple + tuple -/
theorem opd_catT {R : Dv → Prop} (hz : as.length + bs.length ≤ 100000) (k : R (.dat (.tuple (as ++ bs)))) : OpD K B (rCatA K) (.dat (.tuple as)) (.dat (.tuple bs)) R := fun b F H s vx vy hx hy Q q => by
  cases (show Dq K F vx (.tuple as) from hx) with
  | @tup p1 xs _ h1 r1 =>
    cases (show Dq K F vy (.tuple bs) from hy) with
    | @tup p2 ys _ h2 r2 =>
      refine ⟨p1, p2, xs, ys, rfl, rfl, lk_t s.lk (.inl h1), lk_t s.lk (.inl h2), sz_of (by rw [r1.len, r2.len]; exact hz), fun e => ?_, fun n e => ?_, fun n m l hl => ?_⟩
      · subst e
        cases r1
        exact q _ _ F H k s (Go.refl _ _) (show Dq K F _ _ from .tup h2 r2) (Nw.no rfl)
      · subst e
        cases r2
        rw [List.append_nil] at k
        exact q _ _ F H k s (Go.refl _ _) (show Dq K F _ _ from .tup h1 r1) (Nw.no rfl)
      · obtain ⟨s2, g2, d2⟩ := s.newT hl (dqAll_app (vs := xs) r1 r2)
        exact q _ _ _ _ k s2 g2 d2 (Nw.no rfl)
/-! slices -/
def cutD (ds : List PyData) (lo hi : Option Int) : List PyData := (ds.drop (HT.sIx ds.length 0 lo)).take (HT.sIx ds.length ds.length hi - HT.sIx ds.length 0 lo)
theorem dqAll_drop : ∀ {ds : List PyData} {vs : List V} (n : Nat), DqAll K F vs ds → DqAll K F (vs.drop n) (ds.drop n)
  | _, _, 0, h => h
  | [], _, n + 1, h => by
    cases h
    exact .nil
  | d :: ds, _, n + 1, h => by
    cases h with
    | cons h1 h2 => exact dqAll_drop n h2
theorem dqAll_take : ∀ {ds : List PyData} {vs : List V} (n : Nat), DqAll K F vs ds → DqAll K F (vs.take n) (ds.take n)
  | _, _, 0, h => .nil
  | [], _, n + 1, h => by
    cases h
    exact .nil
  | d :: ds, _, n + 1, h => by
    cases h with
    | cons h1 h2 => exact .cons h1 (dqAll_take n h2)
theorem cut_dq {vs : List V} {lo hi : Option Int} (h : DqAll K F vs ds) : DqAll K F (cutV vs lo hi) (cutD ds lo hi) := by
  unfold cutV cutD
  rw [h.len]
  exact dqAll_take _ (dqAll_drop _ h)
/-- a part of a slice -/
def MO (K : PySem.W.Frag) (B : Base) (tt : TO) (δ : Env) (b : Nat) (R : Option Int → Nat → Prop) : Prop := ∀ σ F H, Sd K B δ b σ F H → ∀ Q : Option Int → Hp → Prop,
  (∀ o b' F' H', R o b' → Sr K B b' F' H' → Go B F H F' H' → Q o H') → tt σ H Q
theorem mo_none {R : Option Int → Nat → Prop} (r : R none b) : MO K B tNoPart δ b R := fun σ F H s Q k => k none b F H r s.toSr (Go.refl F H)
theorem mo_some {R : Option Int → Nat → Prop} (h : Me K B te δ b fun x b1 => ∃ i, x = .dat (.int i) ∧ R (some i) b1) : MO K B (tPart te) δ b R := fun σ F H s Q k =>
  h σ F H s _ fun v x b1 F1 H1 ⟨i, e, r⟩ s1 g1 d1 _ => by
    subst e
    cases (show Dq K F1 v (.int i) from d1)
    exact ⟨i, rfl, k _ b1 F1 H1 r s1 g1⟩
theorem me_slL {tl th : TO} (h : Me K B te δ b fun x b1 => ∃ ds, x.fz = .dat (.list ds) ∧ MO K B tl δ b1 fun lo b2 => MO K B th δ b2 fun hi b3 => R (.own (cutD ds lo hi)) b3) : Me K B (tSl (rSlL K) te tl th) δ b R := fun σ F H s Q k =>
  Me.run (Rest := fun x b1 => ∃ ds, x = .dat (.list ds) ∧ MO K B tl δ b1 fun lo b2 => MO K B th δ b2 fun hi b3 => R (.own (cutD ds lo hi)) b3) h s fun v x b1 F1 H1 ⟨ds, e, m⟩ s1 g1 d1 => by
    subst e
    refine m σ F1 H1 (s.back s1 g1) _ fun lo b2 F2 H2 m2 s2 g2 => m2 σ F2 H2 (s.back s2 (g1.trans g2)) _ fun hi b3 F3 H3 r s3 g3 => ?_
    have d3 : Dq K F3 v (.list ds) := (show Dq K F1 v (.list ds) from d1).up (g2.ex.trans g3.ex)
    cases d3 with
    | @lst a xs _ h1 r1 =>
      refine ⟨a, xs, rfl, lk_l s3.lk (.inl h1), fun l hl => ?_⟩
      obtain ⟨s4, g4, d4, n4⟩ := s3.newL hl (cut_dq (lo := lo) (hi := hi) r1)
      exact k _ _ b3 F3 _ r s4 ((g1.trans g2).trans (g3.trans g4)) d4 (n4.back ((g1.trans g2).trans g3) s3)
theorem cutD_all {lo hi : Option Int} (h : HT.sIx ds.length 0 lo = 0 ∧ HT.sIx ds.length ds.length hi = ds.length) : cutD ds lo hi = ds := by
  unfold cutD
  rw [h.1, h.2, List.drop_zero, Nat.sub_zero, List.take_length]
theorem me_slT {tl th : TO} (h : Me K B te δ b fun x b1 => ∃ ds, x.fz = .dat (.tuple ds) ∧ MO K B tl δ b1 fun lo b2 => MO K B th δ b2 fun hi b3 => R (.dat (.tuple (cutD ds lo hi))) b3) : Me K B (tSl (rSlA K) te tl th) δ b R := fun σ F H s Q k =>
  Me.run (Rest := fun x b1 => ∃ ds, x = .dat (.tuple ds) ∧ MO K B tl δ b1 fun lo b2 => MO K B th δ b2 fun hi b3 => R (.dat (.tuple (cutD ds lo hi))) b3) h s fun v x b1 F1 H1 ⟨ds, e, m⟩ s1 g1 d1 => by
    subst e
    refine m σ F1 H1 (s.back s1 g1) _ fun lo b2 F2 H2 m2 s2 g2 => m2 σ F2 H2 (s.back s2 (g1.trans g2)) _ fun hi b3 F3 H3 r s3 g3 => ?_
    have d3 : Dq K F3 v (.tuple ds) := (show Dq K F1 v (.tuple ds) from d1).up (g2.ex.trans g3.ex)
    cases d3 with
    | @tup a xs _ h1 r1 =>
      refine ⟨a, xs, rfl, lk_t s3.lk (.inl h1), fun hw => ?_, fun hw l hl => ?_⟩
      · rw [r1.len] at hw
        have r' : R (.dat (.tuple (cutD ds lo hi))) b3 := r
        rw [cutD_all hw] at r'
        exact k _ _ b3 F3 H3 r' s3 ((g1.trans g2).trans g3) (show Dq K F3 _ _ from .tup h1 r1) (Nw.no rfl)
      · obtain ⟨s4, g4, d4⟩ := s3.newT hl (cut_dq (lo := lo) (hi := hi) r1)
        exact k _ _ b3 _ _ r s4 ((g1.trans g2).trans (g3.trans g4)) d4 (Nw.no rfl)
/-! dicts that are owned -/
theorem me_dnewK (r : R (.ownK []) b) : Me K B tDNewK δ b R := fun σ F H s Q k p hp => by
  have e : Ex H (L2.upd H p (.dK [])) := Ex.new hp
  exact k (.ref p) (.ownK []) b F _ r (s.toSr.grow e) (Go.of_ex e) ⟨p, [], rfl, s.toSr.h0 hp, s.toSr.non hp, upd_same, rfl, .nil, .nil⟩ fun _ => ⟨p, rfl, hp⟩
end
end Dl
set_option Elab.async false
set_option linter.all false
set_option maxRecDepth 100000
set_option maxHeartbeats 4000000
namespace K01
open PySem PySem.Spec PyProof.Rows L2 Gd Evl Dl
abbrev NNs : List Str := ["pen", "size", "found", "turn", "pool", "sign", "one"]
def zz8 : List Str := ["zza", "zzb", "zzc", "zzd", "zze", "zzf", "zzg", "zzh"]
theorem le1 : 1 ≤ 100000 := by decide
def zzD : PyData → PyData
  | .str x => .str ("zz" ++ x)
  | d => d
theorem zzD_all : (("abcdefgh" : Str).cps.toList.map (fun c => PyData.str ⟨#[c]⟩)).map zzD = zz8.map .str := rfl
theorem atI_at {α : Type} {ds : List α} {d : α} {j : Nat} {i : Int} (e : i = (j : Int)) (h : ds[j]? = some d) : atI ds i = some d := by
  have hl := (List.getElem?_eq_some_iff.mp h).1
  unfold atI ixN
  rw [if_pos (by omega), if_pos (by omega), e]
  exact h
theorem atI0 {α : Type} {d : α} {ds : List α} : atI (d :: ds) 0 = some d := atI_at (j := 0) rfl rfl
theorem zz_names : ∀ z ∈ zz8, isNameS z = true := by decide +kernel
theorem pigeon {α : Type} [DecidableEq α] : ∀ {l xs : List α}, l.Nodup → (∀ x ∈ l, x ∈ xs) → l.length ≤ xs.length
  | [], _, _, _ => Nat.zero_le _
  | a :: r, xs, nd, h => by
    rw [List.nodup_cons] at nd
    have ha := h a List.mem_cons_self
    have := pigeon (l := r) (xs := xs.erase a) nd.2 fun x hx => (List.mem_erase_of_ne (fun e => nd.1 (by rw [← e]; exact hx))).mpr (h x (List.mem_cons_of_mem _ hx))
    rw [List.length_erase_of_mem ha] at this
    have hp := List.length_pos_of_mem ha
    rw [List.length_cons]
    omega
/-- so many different names -/
def spNames : DSpec := fun es b R _ => ∃ (n : Nat) (b0 : Nat), es = [.pen, .dat (.int (n : Int))] ∧ n ≤ 5 ∧ b = b0 + 9 * n ∧ ∀ xs : List Str, xs.length = n → xs.Nodup → (∀ x ∈ xs, isNameS x = true) → R (.own (xs.map .str)) b0
section
variable {P : Program} {w : World} {K : PySem.W.Frag} {mg : Str → Option Value} {base : Heap} {f fN fD fNm : Addr} {fd fdN fdD fdNm : FuncData}
theorem scNames : FnScope NNs ["pen", "size"] (defScope sNames) := ⟨rfl, rfl, rfl, by decide +kernel, rfl, by decide +kernel, by decide +kernel⟩
structure LnT (K : PySem.W.Frag) (mg : Str → Option Value) (fN fD fNm : Addr) (fdN fdD fdNm : FuncData) : Prop where
  dr : DrT mg fN fD
  n : FnP K "_law_next" sNext fN fdN
  d : FnP K "_law_draw" sDraw fD fdD
  nm : FnP K "_law_name" sName fNm fdNm
  gN : mg "_law_name" = some (.ref fNm)
theorem ok_names (T : LnT K mg fN fD fNm fdN fdD fdNm) (F : FnP K "_law_names" sNames f fd) : FnOk P w K mg base CX0 4 f fd ["pen", "size"] (spD K 2 false [] spNames) := by
  have GN : FnOk P w K mg base CX0 3 fNm fdNm ["pen"] spName := ok_name T.dr T.n T.d T.nm
  have bN : Binds K fdNm ["pen"] [] := T.nm.bindsN fun _ _ _ _ _ _ us hl => match us, hl with | [_], _ => rfl
  refine F.ok scNames (fun vs H Q E h => spD_len h) (fun cdv A outer s H vs Q E hr h => ⟨_, PSs.nox (pss_cons (ps_set (i := 2) scNames.nd rfl (Or.inr rfl) (pe_lst pa_nil))
    (pss_cons (ps_for PassesOwn.never rfl (pi_range1 rfl T.dr.range (pa_cons (pv 1) pa_nil)) (pg_name (i := 3) scNames.nd rfl (Or.inl rfl))
      (pss_cons (ps_set (i := 4) scNames.nd rfl (Or.inl rfl) (pe_op op_cat (pe_lst (pa_cons (pe_call GN hr (by rfl) T.gN T.nm.kp bN .nil pass0 (pa_cons (pv 0) pa_nil)) pa_nil))
          (pe_lc (own := [("sign", 5)]) (g := gName 5) (tt := tYes) rfl scNames.nd (pi_str pe_str) (blkOk_by (N := NNs) (sc := defScope sNames) (by decide +kernel)) (fun _ _ _ _ _ => pg_name (i := 5) scNames.nd rfl (Or.inl rfl)) (fun _ _ _ _ _ => pts_nil) (fun _ _ _ _ _ => pe_op op_add_str pe_str (pv 5)))))
      (pss_one (ps_expr (pe_bm PySem.F.plainAttrs_list PySem.F.slot_list_append rfl mt_append (pv 2) (pa_cons (pe_ix ix_list (pe_lc (own := [("one", 6)]) (g := gName 6) rfl scNames.nd (pi_list (pv 4)) (blkOk_by (N := NNs) (sc := defScope sNames) (by decide +kernel)) (fun _ _ _ _ _ => pg_name (i := 6) scNames.nd rfl (Or.inl rfl)) (fun _ _ _ _ _ => pts_one (pt_cmpR (r := rIn K true) (by exact op_notIn_seq) (pv 6) (pv 2) (by rfl))) (fun _ _ _ _ _ => pv 6)) pe_int (fun _ _ => rfl)) pa_nil))))))
    (pss_one (ps_ret (pv 2))))), ?_⟩)
  refine spD_enter h (by decide) fun B b es R he hT hu hX hBX ⟨n, b0, e, hn, hb, hR⟩ => ?_
  subst e hb
  refine mz_seq (mz_set (me_lst (ma_nil ⟨[], rfl, by decide, ?_⟩)))
  refine mz_seq (mz_for (mi_rng (ma_cons (me_var (ma_nil ⟨(n : Int), rfl, by omega, by omega, fun i δ b' => ∃ (xs : List Str) (x3 x4 x5 x6 : Option Dv), δ = [some .pen, some (.dat (.int (n : Int))), some (.own (xs.map .str)), x3, x4, x5, x6] ∧ xs.length = i ∧ xs.Nodup ∧ (∀ x ∈ xs, isNameS x = true) ∧ i ≤ n ∧ b' = b0 + 9 * (n - i), ⟨[], none, none, none, none, rfl, rfl, List.nodup_nil, (fun x z => by cases z), Nat.zero_le _, by omega⟩, ?_, ?_⟩)))))
  · rintro i d δ b' hi ⟨xs, x3, x4, x5, x6, rfl, hl, nd, hx, hin, rfl⟩
    have hi' : i < n := by
      have := (List.getElem?_eq_some_iff.mp hi).1
      rw [intsD_len] at this
      omega
    have eb : b0 + 9 * (n - i) = (b0 + 9 * (n - (i + 1))) + 9 := by omega
    rw [eb]
    refine mg_name ?_
    refine mz_seq (mz_setF (me_op (me_lst (ma_cons (me_callV (ma_cons (me_var (ma_nil ?_))))))))
    refine cd_name fun x nx => ma_nil ⟨[.str x], rfl, le1, ?_⟩
    refine me_map (mi_str (me_str ⟨_, rfl, by decide, zzD, fun d hd => ?_, ?_⟩))
    · obtain ⟨c, _, rfl⟩ := List.mem_map.mp hd
      refine me_op (me_str (me_var ?_))
      exact opd_addS (p := "zz") (q := ⟨#[c]⟩) (show 2 + 1 ≤ 100000 by decide) ⟨rfl, rfl⟩
    show OpD K B rCat (.dat (.list [.str x])) (.dat (.list (("abcdefgh" : Str).cps.toList.map (fun c => PyData.str ⟨#[c]⟩) |>.map zzD))) _
    rw [zzD_all]
    refine opd_cat (show 1 + 8 ≤ 100000 by decide) ?_
    have pool : ([PyData.str x] ++ zz8.map PyData.str) = (x :: zz8).map .str := rfl
    rw [pool]
    refine mz_app (me_thaw (i := 2) (ds := xs.map .str) (me_op ?_))
    refine me_filter (j := 6) (mi_list (me_var (e := .dat (.list ((x :: zz8).map .str))) ?_))
    refine ⟨(x :: zz8).map .str, rfl, show 9 ≤ 100000 by decide, fun d => match d with | .str y => !xs.contains y | _ => false, id, fun d hd => ?_, fun d hd _ => me_var (e := .dat d) ⟨rfl, rfl⟩, me_int ?_⟩
    · obtain ⟨y, _, rfl⟩ := List.mem_map.mp hd
      refine mt_test (me_op (me_var (e := .dat (.str y)) (me_var (e := .dat (.list (xs.map .str))) ?_)))
      exact opd_inS ⟨_, rfl, rfl, rfl⟩
    · obtain ⟨y, r, hy, hm, hc⟩ : ∃ y r, (x :: zz8).filter (fun y => !xs.contains y) = y :: r ∧ y ∈ x :: zz8 ∧ y ∉ xs := by
        cases q : (x :: zz8).filter (fun y => !xs.contains y) with
        | nil =>
          have all := List.filter_eq_nil_iff.mp q
          have := pigeon (l := zz8) (xs := xs) (by decide +kernel) fun z hz => by
            have := all z (List.mem_cons_of_mem _ hz)
            simpa using this
          have : (8 : Nat) ≤ xs.length := this
          omega
        | cons y r =>
          have hy : y ∈ (x :: zz8).filter (fun y => !xs.contains y) := q ▸ List.mem_cons_self
          have := List.mem_filter.mp hy
          exact ⟨y, r, rfl, this.1, by simpa using this.2⟩
      have e : (((x :: zz8).map PyData.str).filter (fun d => match d with | .str y => !xs.contains y | _ => false)).map id = (y :: r).map PyData.str := by
        rw [List.map_id, List.filter_map, ← hy] <;> rfl
      show OpD K B (rIxL K) (.dat (.list ((((x :: zz8).map PyData.str).filter (fun d => match d with | .str y => !xs.contains y | _ => false)).map id))) (.dat (.int 0)) _
      rw [e]
      refine opd_ixL (d := .str y) atI0 ⟨True.intro, _, rfl, ?_, ?_⟩
      · rw [List.length_map]
        omega
      refine ⟨xs ++ [y], _, _, _, _, congrArg (fun z => [_, _, some (Dv.own z), _, _, _, _]) ?_, ?_, ?_, ?_, ?_, ?_⟩
      · rw [List.map_append] <;> rfl
      · rw [List.length_append, hl] <;> rfl
      · exact List.nodup_append.mpr ⟨nd, by simp, fun a ha c hc' => by
          have : c = y := by simpa using hc'
          subst this
          exact fun z => hc (z ▸ ha)⟩
      · intro z hz
        rcases List.mem_append.mp hz with hz | hz
        · exact hx z hz
        · have : z = y := by simpa using hz
          subst this
          rcases List.mem_cons.mp hm with rfl | hm
          · exact nx
          · exact zz_names _ hm
      · omega
      · rfl
  · rintro δ b' ⟨xs, x3, x4, x5, x6, rfl, hl, nd, hx, hin, rfl⟩
    rw [intsD_len] at hl hin
    have : b0 + 9 * (n - (intsD 0 (n : Int).toNat).length) = b0 := by
      rw [intsD_len]
      omega
    rw [this]
    exact mz_retO (hR xs (by omega) nd hx)
end
end K01
set_option Elab.async false
set_option linter.all false
set_option maxRecDepth 100000
set_option maxHeartbeats 4000000
/-! the data level: owned dicts written, a, b = x, y -/
namespace Dl
open PySem PySem.Spec PyProof.Rows L2 Evl Gd LamX
def putD (ps : List (PyData × PyData)) (k : Key) (d : PyData) : List (PyData × PyData) :=
  if (ps.any fun p => keyIs p.1 k) = true then ps.map (fun p => if keyIs p.1 k = true then (p.1, d) else p) else ps ++ [(keyD k, d)]
section
variable {K : PySem.W.Frag} {B : Base} {F F' H H' : Hp} {v : V} {e : Dv} {δ : Env} {b n : Nat} {σ : L2.St} {d : PyData} {ds : List PyData} {ta : TA} {tb te tk tv : TE} {R : Dv → Nat → Prop} {E : Ed} {D : Ends} {i j : Nat} {p : Addr} {ps : List (PyData × PyData)} {kvs : List (Key × V)} {k : Key}
theorem any_rel : ∀ {ps : List (PyData × PyData)} {kvs : List (Key × V)}, ps.map (·.1) = kvs.map (fun p => keyD p.1) → (ps.any fun p => keyIs p.1 k) = kvs.any fun kv => decide (kv.1 = k)
  | [], [], _ => rfl
  | [], _ :: _, h => by cases h
  | _ :: _, [], h => by cases h
  | p :: ps, kv :: kvs, h => by
    rw [List.map_cons, List.map_cons] at h
    injection h with h1 h2
    rw [List.any_cons, List.any_cons, any_rel h2, h1, keyIs_key]
theorem map_rel : ∀ {ps : List (PyData × PyData)} {kvs : List (Key × V)}, ps.map (·.1) = kvs.map (fun p => keyD p.1) → DqAll K F (kvs.map (·.2)) (ps.map (·.2)) → Dq K F v d →
    (ps.map (fun p => if keyIs p.1 k = true then (p.1, d) else p)).map (·.1) = (kvs.map (fun kv => if kv.1 = k then (kv.1, v) else kv)).map (fun p => keyD p.1) ∧
    DqAll K F ((kvs.map (fun kv => if kv.1 = k then (kv.1, v) else kv)).map (·.2)) ((ps.map (fun p => if keyIs p.1 k = true then (p.1, d) else p)).map (·.2)) ∧
    (kvs.map (fun kv => if kv.1 = k then (kv.1, v) else kv)).map (·.1) = kvs.map (·.1)
  | [], [], _, _, _ => ⟨rfl, .nil, rfl⟩
  | [], _ :: _, h, _, _ => by cases h
  | _ :: _, [], h, _, _ => by cases h
  | p :: ps, kv :: kvs, h, r, hv => by
    rw [List.map_cons, List.map_cons] at h
    injection h with h1 h2
    rw [List.map_cons, List.map_cons] at r
    cases r with
    | cons r1 r2 =>
      obtain ⟨i1, i2, i3⟩ := map_rel h2 r2 hv
      have q : keyIs p.1 k = decide (kv.1 = k) := by rw [h1, keyIs_key]
      simp only [List.map_cons]
      rw [i1, i3, q]
      by_cases e : kv.1 = k
      · rw [if_pos e, if_pos (decide_eq_true e)]
        exact ⟨by rw [h1], .cons hv i2, rfl⟩
      · rw [if_neg e, if_neg (by rw [decide_eq_false e]; decide)]
        exact ⟨by rw [h1], .cons r1 i2, rfl⟩
theorem put_rel (h1 : ps.map (·.1) = kvs.map (fun p => keyD p.1)) (h2 : DqAll K F (kvs.map (·.2)) (ps.map (·.2))) (nd : (kvs.map (·.1)).Nodup) (hv : Dq K F v d) :
    (putD ps k d).map (·.1) = (putK kvs k v).map (fun p => keyD p.1) ∧ DqAll K F ((putK kvs k v).map (·.2)) ((putD ps k d).map (·.2)) ∧ ((putK kvs k v).map (·.1)).Nodup := by
  unfold putD putK
  rw [any_rel h1]
  by_cases e : (kvs.any fun kv => decide (kv.1 = k)) = true
  · rw [if_pos e, if_pos e]
    obtain ⟨i1, i2, i3⟩ := map_rel (k := k) h1 h2 hv
    exact ⟨i1, i2, by rw [i3]; exact nd⟩
  · rw [if_neg e, if_neg e, List.map_append, List.map_append, List.map_append, List.map_append, List.map_append, h1]
    refine ⟨rfl, DqAll.snoc h2 hv, List.nodup_append.mpr ⟨nd, by simp, fun a ha c hc z => ?_⟩⟩
    have : c = k := by simpa using hc
    subst this
    rw [z] at ha
    obtain ⟨q, hq, eq⟩ := List.mem_map.mp ha
    exact e (List.any_eq_true.mpr ⟨q, hq, decide_eq_true eq⟩)
theorem putK_len : (putK kvs k v).length ≤ kvs.length + 1 := by
  unfold putK
  split
  · rw [List.length_map]
    omega
  · rw [List.length_append] <;> exact Nat.le_refl _
/-- x[k] = e, x owned -/
theorem mz_dput {i : Nat} (h : Me K B tv δ b fun x b1 => Me K B tk δ b1 fun y b2 => ∃ (k : Key) (d : PyData), x.fz = .dat d ∧ y.fz = .dat (keyD k) ∧ ps.length < 100000 ∧ E.nx (δ.set i (some (.ownK (putD ps k d)))) b2) (hi : δ[i]? = some (some (.ownK ps)) := by rfl) :
    Mz K B (sDPut (tVar i) tk tv) δ b E := fun σ F H s D dd => by
  obtain ⟨w, h1, p, kvs, rfl, h0, hF, hH, hk, hd, nd⟩ := s.at_ i _ hi
  refine Me.run (Rest := fun x b1 => Me K B tk δ b1 fun y b2 => ∃ (k : Key) (d : PyData), x = .dat d ∧ y.fz = .dat (keyD k) ∧ ps.length < 100000 ∧ E.nx (δ.set i (some (.ownK (putD ps k d)))) b2) h s fun vx x b1 F1 H1 m1 r1 g1 d1 => ?_
  refine ⟨.ref p, h1, ?_⟩
  refine Me.run (Rest := fun y b2 => ∃ (k : Key) (d : PyData), x = .dat d ∧ y = .dat (keyD k) ∧ ps.length < 100000 ∧ E.nx (δ.set i (some (.ownK (putD ps k d)))) b2) m1 (s.back r1 g1) fun vy y b2 F2 H2 ⟨k, d, e1, e2, hz, r⟩ r2 g2 d2 => ?_
  subst e1 e2
  have s2 := s.back r2 (g1.trans g2)
  have cold := own_cold s.toSr h0
  have hH2 := (g1.trans g2).kp p _ hH cold
  have hF2 := r2.noT ((g1.trans g2).nw p (by rw [hH]; exact fun z => nomatch z) hF cold) hH2 (fun _ z => nomatch z)
  have hl : kvs.length = ps.length := by
    have := congrArg List.length hk
    simpa using this.symm
  obtain ⟨q1, q2, q3⟩ := put_rel (k := k) hk (hd.up (g1.trans g2).ex) nd ((show Dq K F1 vx d from d1).up g2.ex)
  refine ⟨p, _, rfl, .inl ⟨kvs, k, hH2, key_val (show Dq K F2 vy (keyD k) from d2), sz_lt (by omega), rfl⟩, ?_⟩
  exact dd.nx _ b2 σ F2 _ r (s2.write hi rfl h1 h0 hF2 (dK_code hH2) ⟨p, _, rfl, h0, hF2, upd_same, q1, q2, q3⟩) (g1.trans g2).ex
/-- a, b = x, y -/
theorem mz_par {i j : Nat} (h : MA K B ta δ b fun es b1 => ∃ x y, es = [x, y] ∧ E.nx ((δ.set i (some x)).set j (some y)) b1) : Mz K B (tPar i j ta) δ b E := fun σ F H s D dd =>
  h σ F H s _ fun vs es b1 F1 H1 ⟨x, y, e, r⟩ r1 g1 d1 => by
    subst e
    obtain ⟨v, w, rfl, h1, h2⟩ := df2 d1
    refine ⟨v, w, rfl, dd.nx _ b1 _ F1 H1 r (((s.back r1 g1).set i (Dr.of h1) (fun o => by rw [h1.notOwn] at o; cases o)).set j (Dr.of h2) (fun o => by rw [h2.notOwn] at o; cases o)) g1.ex⟩
theorem cd_less {r : List V → Hp → VK → Prop} {es : List Dv} (h : n ≤ b) (m : CallD K B r es n R) : CallD K B r es b R := fun F H s vs hd Q k => m F H (s.less h) vs hd Q k
theorem ma_less {R : List Dv → Nat → Prop} (h : n ≤ b) (m : MA K B ta δ n R) : MA K B ta δ b R := fun σ F H s Q k => m σ F H (s.lessB h) Q k
theorem mz_less {ts : TS} (h : n ≤ b) (m : Mz K B ts δ n E) : Mz K B ts δ b E := fun σ F H s D dd => m σ F H (s.lessB h) D dd
end
end Dl
set_option Elab.async false
set_option linter.all false
set_option maxRecDepth 100000
set_option maxHeartbeats 4000000
/-! tables whose columns are a tuple that is told as it is: dict(plan[table][0]) -/
namespace K01
open PySem PySem.Spec PyProof.Rows L2 Gd Evl Dl
/-- a pair whose first is a tuple as it was made -/
def XC (F : Hp) (v : V) : Prop := ∃ (q c : Addr) (f : V) (o : Obj) (vs : List V), v = .ref q ∧ Rd F q (.tup [.ref c, f]) ∧ F c = some (.frz o (.tup vs)) ∧ o.dict = none
def ColX (K : PySem.W.Frag) (cs : List (Str × Str)) : Hp → V → Prop := fun F v => ∃ (c : Addr) (o : Obj) (vs : List V), v = .ref c ∧ F c = some (.frz o (.tup vs)) ∧ o.dict = none ∧ DqAll K F vs (cs.map colD)
def TabX (K : PySem.W.Frag) (t : List (Str × Str) × List Str) : Hp → V → Prop := fun F v => Dq K F v (tabD t) ∧ XC F v
abbrev PlanX (K : PySem.W.Frag) (p : List Tab) : Hp → V → Prop := DictX K XC (p.map planP)
theorem rd_up {F F' : Hp} {a : Addr} {u : HO} (h : Rd F a u) (x : Ex F F') : Rd F' a u := by
  rcases h with h | ⟨o, h⟩
  · exact .inl (x _ _ h)
  · exact .inr ⟨o, x _ _ h⟩
theorem XC.up {F F' : Hp} {v : V} (h : XC F v) (x : Ex F F') : XC F' v := by
  obtain ⟨q, c, f, o, vs, h1, h2, h3, h4⟩ := h
  exact ⟨q, c, f, o, vs, h1, rd_up h2 x, x _ _ h3, h4⟩
theorem rd_tupE {F : Hp} {a : Addr} {xs ys : List V} (h : Rd F a (.tup xs)) (g : Rd F a (.tup ys)) : xs = ys := by
  rcases h with h | ⟨o, h⟩ <;> rcases g with g | ⟨o', g⟩ <;> rw [h] at g <;> cases g <;> rfl
section
variable {K : PySem.W.Frag} {B : Base} {F F' H H' : Hp} {v w : V} {e : Dv} {δ : Dl.Env} {b : Nat} {σ : L2.St} {d : PyData} {ds : List PyData} {ta tb te tv tk : TE} {R : Dv → Nat → Prop} {E : Ed} {p : List Tab} {t : Tab} {ps : List (PyData × PyData)}
theorem ColX.up {cs : List (Str × Str)} (h : ColX K cs F v) (x : Ex F F') : ColX K cs F' v := by
  obtain ⟨c, o, vs, h1, h2, h3, h4⟩ := h
  exact ⟨c, o, vs, h1, x _ _ h2, h3, h4.up x⟩
theorem TabX.up {t : List (Str × Str) × List Str} (h : TabX K t F v) (x : Ex F F') : TabX K t F' v := ⟨h.1.up x, h.2.up x⟩
theorem DictX.dq {P : Hp → V → Prop} (h : DictX K P ps F v) : Dq K F v (.dict ps) := by
  obtain ⟨a, kvs, rfl, h1, h2, h3, _⟩ := h
  exact .dct (.inl h1) h2 h3
/-- a thing that is data besides -/
theorem me_as {i : Nat} {P : Hp → V → Prop} (hi : δ[i]? = some (some (.mp P))) (hP : ∀ F v, P F v → Dq K F v d) (r : R (.dat d) b) : Me K B (tVar i) δ b R := fun σ F H s Q k => by
  obtain ⟨v, h1, h2⟩ := s.get hi
  exact ⟨v, h1, k v (.dat d) b F H r s.toSr (Go.refl F H) (show Dq K F v d from hP F v (mp_at h2)) (Nw.no rfl)⟩
/-- tuple(xs), the pairs of columns -/
theorem cd_tupX {cs : List (Str × Str)} (ne : cs ≠ []) (k : R (.mp (ColX K cs)) b) : CallD K B (rTupX K) [.dat (.list (cs.map colD))] b R := fun F H s vs hs Q q => by
  obtain ⟨v, rfl, h⟩ := df1 hs
  cases (show Dq K F v (.list (cs.map colD)) from h) with
  | @lst p vs _ h1 h2 =>
    refine ⟨p, vs, rfl, lk_l s.lk (.inl h1), fun l o hl ho => ?_⟩
    have xt : XT o (.tup vs) := by
      match cs, ne, h2 with
      | c :: r, _, h2 =>
        cases h2 with
        | cons h3 h4 =>
          cases h3
          exact ⟨ho, _, _, rfl, List.mem_cons_self⟩
    have s2 : Sr K B b (L2.upd F l (.frz o (.tup vs))) (L2.upd H l (.frz o (.tup vs))) := s.newF hl (fun o' w' e => by cases e; exact xt) (fun _ z => nomatch z)
    have x : Ex F (L2.upd F l (.frz o (.tup vs))) := Ex.new (s.non hl)
    refine q _ (.mp (ColX K cs)) b _ _ k s2 (Go.new s hl) (show ∀ F', Ex _ F' → ColX K cs F' (.ref l) from fun F' x2 => ?_) (Nw.no rfl)
    exact ColX.up ⟨l, o, vs, rfl, upd_same, ho, h2.up x⟩ x2
/-- (columns, flags) -/
theorem me_tupX {cs : List (Str × Str)} {fs : List Str} (h : Me K B ta δ b fun x b1 => Me K B tb δ b1 fun y b2 => x.fz = .mp (ColX K cs) ∧ y.fz = .dat (.tuple (fs.map .str)) ∧ R (.mp (TabX K (cs, fs))) b2) : Me K B (tTup (tCons ta (tCons tb tNil))) δ b R := fun σ F H s Q k =>
  Me.run (Rest := fun x b1 => Me K B tb δ b1 fun y b2 => x = .mp (ColX K cs) ∧ y.fz = .dat (.tuple (fs.map .str)) ∧ R (.mp (TabX K (cs, fs))) b2) h s fun vx x b1 F1 H1 m1 r1 g1 d1 =>
    Me.run (Rest := fun y b2 => x = .mp (ColX K cs) ∧ y = .dat (.tuple (fs.map .str)) ∧ R (.mp (TabX K (cs, fs))) b2) m1 (s.back r1 g1) fun vy y b2 F2 H2 ⟨e1, e2, r⟩ r2 g2 d2 => ⟨by show 2 ≤ sizeLine; decide, fun l hl => by
      subst e1 e2
      obtain ⟨c, o, vs, rfl, c1, c2, c3⟩ := ColX.up (mp_at d1) g2.ex
      have dc : Dq K F2 (.ref c) (.tuple (cs.map colD)) := .tup (.inr ⟨o, c1⟩) c3
      have dy : Dq K F2 vy (.tuple (fs.map .str)) := d2
      have x : Ex F2 (L2.upd F2 l (.tup [.ref c, vy])) := Ex.new (r2.non hl)
      have s3 : Sr K B b2 (L2.upd F2 l (.tup [.ref c, vy])) (L2.upd H2 l (.tup [.ref c, vy])) := r2.newF hl (fun _ _ z => nomatch z) (fun _ z => nomatch z)
      refine k _ (.mp (TabX K (cs, fs))) b2 _ _ r s3 ((g1.trans g2).trans (Go.new r2 hl)) (show ∀ F', Ex _ F' → TabX K (cs, fs) F' (.ref l) from fun F' x2 => TabX.up ⟨?_, ?_⟩ x2) (Nw.no rfl)
      · exact .tup (.inl upd_same) (.cons (dc.up x) (.cons (dy.up x) .nil))
      · exact ⟨l, c, vy, o, vs, rfl, .inl upd_same, x _ _ c1, c2⟩⟩
theorem me_dnewX (r : R (.ownX K XC []) b) : Me K B tDNewK δ b R := fun σ F H s Q k p hp => by
  have e : Ex H (L2.upd H p (.dK [])) := Ex.new hp
  exact k (.ref p) (.ownX K XC []) b F _ r (s.toSr.grow e) (Go.of_ex e) ⟨p, [], rfl, s.toSr.h0 hp, s.toSr.non hp, upd_same, rfl, .nil, .nil, fun w hw => by cases hw⟩ fun _ => ⟨p, rfl, hp⟩
theorem putK_vals {kvs : List (Key × V)} {k : Key} {v : V} : ∀ x ∈ (putK kvs k v).map (·.2), x = v ∨ x ∈ kvs.map (·.2) := by
  unfold putK
  intro x hx
  split at hx
  · obtain ⟨q, hq, rfl⟩ := List.mem_map.mp hx
    obtain ⟨z, hz, rfl⟩ := List.mem_map.mp hq
    by_cases c : z.1 = k
    · exact .inl (by simp [c])
    · refine .inr ?_
      simp only [if_neg c]
      exact List.mem_map_of_mem hz
  · rw [List.map_append] at hx
    rcases List.mem_append.mp hx with hx | hx
    · exact .inr hx
    · exact .inl (by simpa using hx)
/-- tables[name] = (columns, flags) -/
theorem mz_dputX {i : Nat} (h : Me K B tv δ b fun x b1 => Me K B tk δ b1 fun y b2 => ∃ (k : Key) (t : List (Str × Str) × List Str), x.fz = .mp (TabX K t) ∧ y.fz = .dat (keyD k) ∧ ps.length < 100000 ∧ E.nx (δ.set i (some (.ownX K XC (putD ps k (tabD t))))) b2) (hi : δ[i]? = some (some (.ownX K XC ps)) := by rfl) :
    Mz K B (sDPut (tVar i) tk tv) δ b E := fun σ F H s D dd => by
  obtain ⟨w, h1, p, kvs, rfl, h0, hF, hH, hk, hd, nd, hX⟩ := s.at_ i _ hi
  refine Me.run (Rest := fun x b1 => Me K B tk δ b1 fun y b2 => ∃ (k : Key) (t : List (Str × Str) × List Str), x = .mp (TabX K t) ∧ y.fz = .dat (keyD k) ∧ ps.length < 100000 ∧ E.nx (δ.set i (some (.ownX K XC (putD ps k (tabD t))))) b2) h s fun vx x b1 F1 H1 m1 r1 g1 d1 => ?_
  refine ⟨.ref p, h1, ?_⟩
  refine Me.run (Rest := fun y b2 => ∃ (k : Key) (t : List (Str × Str) × List Str), x = .mp (TabX K t) ∧ y = .dat (keyD k) ∧ ps.length < 100000 ∧ E.nx (δ.set i (some (.ownX K XC (putD ps k (tabD t))))) b2) m1 (s.back r1 g1) fun vy y b2 F2 H2 ⟨k, t, e1, e2, hz, r⟩ r2 g2 d2 => ?_
  subst e1 e2
  have tx : TabX K t F2 vx := TabX.up (mp_at d1) g2.ex
  have s2 := s.back r2 (g1.trans g2)
  have cold := own_cold s.toSr h0
  have hH2 := (g1.trans g2).kp p _ hH cold
  have hF2 := r2.noT ((g1.trans g2).nw p (by rw [hH]; exact fun z => nomatch z) hF cold) hH2 (fun _ z => nomatch z)
  have hl : kvs.length = ps.length := by
    have := congrArg List.length hk
    simpa using this.symm
  obtain ⟨q1, q2, q3⟩ := put_rel (k := k) hk (hd.up (g1.trans g2).ex) nd tx.1
  refine ⟨p, _, rfl, .inl ⟨kvs, k, hH2, key_val (show Dq K F2 vy (keyD k) from d2), sz_lt (by omega), rfl⟩, ?_⟩
  refine dd.nx _ b2 σ F2 _ r (s2.write hi rfl h1 h0 hF2 (dK_code hH2) ⟨p, _, rfl, h0, hF2, upd_same, q1, q2, q3, fun x hx F3 x3 => ?_⟩) (g1.trans g2).ex
  rcases putK_vals x hx with rfl | hx
  · exact tx.2.up x3
  · exact hX x hx F3 ((g1.trans g2).ex.trans x3)
theorem pairs_cols : ∀ {cs : List (Str × Str)} {vs : List V}, DqAll K F vs (cs.map colD) → ∃ as : List Addr, vs = as.map V.ref ∧ Paired (fun (p : Addr) (kv : Key × V) => Rd F p (.tup [kV kv.1, kv.2])) as (cs.map fun c => (Sum.inr c.1, V.str c.2))
  | [], _, h => by
    cases h
    exact ⟨[], rfl, .nil⟩
  | c :: r, _, h => by
    cases h with
    | cons h1 h2 =>
      obtain ⟨as, e, q⟩ := pairs_cols h2
      cases h1 with
      | @tup a ws _ hr hd =>
        cases hd with
        | cons a1 a2 =>
          cases a2 with
          | cons a3 a4 =>
            cases a1
            cases a3
            cases a4
            exact ⟨a :: as, by rw [e] <;> rfl, .cons hr q⟩
theorem paired_lk {as : List Addr} {kvs : List (Key × V)} (lk : Lk F H) (h : Paired (fun (p : Addr) (kv : Key × V) => Rd F p (.tup [kV kv.1, kv.2])) as kvs) : Paired (fun p kv => SqT K H p [kV kv.1, kv.2]) as kvs := by
  induction h with
  | nil => exact .nil
  | cons h _ ih => exact .cons (.inl (lk _ _ h)) ih
theorem merge_new : ∀ {more kvs : List (Key × V)}, ((kvs ++ more).map (·.1)).Nodup → mergeK kvs more = kvs ++ more
  | [], kvs, _ => by rw [List.append_nil] <;> rfl
  | kv :: more, kvs, h => by
    have n : kv.1 ∉ kvs.map (·.1) := fun z => by
      rw [List.map_append, List.nodup_append] at h
      exact h.2.2 _ z _ (by simp) rfl
    have e : mergeK kvs (kv :: more) = mergeK (putK kvs kv.1 kv.2) more := rfl
    rw [e, putK_new n]
    have e2 : kvs ++ [(kv.1, kv.2)] ++ more = kvs ++ kv :: more := by simp
    rw [merge_new (by rw [e2]; exact h), e2]
/-- the columns as a dict -/
def ownD (t : Tab) : List (PyData × PyData) := t.2.1.map fun c => (.str c.1, .str c.2)
/-- dict(plan[table][0]) -/
theorem me_dictPlan {i j : Nat} (hi : δ[i]? = some (some (.mp (PlanX K p)))) (hj : δ[j]? = some (some (.dat (.str t.1)))) (nd : (p.map (·.1)).Nodup) (tm : t ∈ p) (tok : TabOk t) (r : R (.ownK (ownD t)) b) :
    Me K B (tCB (rDictT K) (tCons (tOp (rIxT K) (tDGet (tVar i) (tVar j)) (tC (.int 0))) tNil)) δ b R := fun σ F H s Q q => by
  obtain ⟨v, h1, h2⟩ := s.get hi
  obtain ⟨a, kvs, rfl, ha, hk, hd, hX⟩ := mp_at h2
  obtain ⟨w, h3, h4⟩ := s.get hj
  cases (show Dq K F w (.str t.1) from h4)
  rcases look_k (k := .inr t.1) hk hd with ⟨d', x, q1, q2, q3⟩ | ⟨q1, _⟩
  · rw [look_mem nd tm] at q1
    cases q1
    have mem : x ∈ kvs.map (·.2) := by
      unfold valV at q2
      obtain ⟨z, hz, rfl⟩ := Option.map_eq_some_iff.mp q2
      exact List.mem_map_of_mem (List.mem_of_find?_eq_some hz)
    obtain ⟨qa, c, f, o, vs, rfl, hq, hc, od⟩ := hX x mem F (Ex.refl F)
    have cols : DqAll K F vs (t.2.1.map colD) := by
      cases q3 with
      | @tup _ ws _ hr hw =>
        have := rd_tupE hr hq
        subst this
        cases hw with
        | cons a1 a2 =>
          cases a1 with
          | @tup _ us _ hr2 hu =>
            have := rd_tupE hr2 (.inr ⟨o, hc⟩)
            subst this
            exact hu
    obtain ⟨as, e, pr⟩ := pairs_cols cols
    subst e
    have nk : (((t.2.1.map fun c => ((Sum.inr c.1 : Key), V.str c.2))).map (·.1)).Nodup := by
      have n1 : (t.2.1.map (·.1)).Nodup := (List.nodup_append.mp tok.nd).1
      have e : ((t.2.1.map fun c => ((Sum.inr c.1 : Key), V.str c.2))).map (·.1) = (t.2.1.map (·.1)).map (Sum.inr (α := Int)) := by
        rw [List.map_map, List.map_map] <;> rfl
      rw [e]
      exact List.Pairwise.map _ (fun a b h z => h (Sum.inr.inj z)) n1
    have mg : mergeK [] (t.2.1.map fun c => ((Sum.inr c.1 : Key), V.str c.2)) = t.2.1.map fun c => (Sum.inr c.1, V.str c.2) := merge_new (by rw [List.nil_append]; exact nk)
    refine ⟨_, h1, _, h3, a, _, rfl, .inl ⟨kvs, .inr t.1, s.lk _ _ (.inl ha), rfl, q2.symm⟩, ?_⟩
    refine ⟨qa, [.ref c, f], 0, .ref c, rfl, rfl, .inl (s.lk _ _ hq), rfl, ?_⟩
    refine ⟨c, o, as, _, rfl, s.exact hc (fun z => z), od, paired_lk s.lk pr, fun l hl => ?_⟩
    rw [mg]
    have x : Ex H (L2.upd H l (.dK (t.2.1.map fun c => ((Sum.inr c.1 : Key), V.str c.2)))) := Ex.new hl
    refine q (.ref l) (.ownK (ownD t)) b F _ r (s.toSr.grow x) (Go.of_ex x) ⟨l, _, rfl, s.toSr.h0 hl, s.toSr.non hl, upd_same, ?_, ?_, nk⟩ fun _ => ⟨l, rfl, hl⟩
    · unfold ownD
      rw [List.map_map, List.map_map] <;> rfl
    · unfold ownD
      rw [List.map_map, List.map_map]
      generalize t.2.1 = l
      induction l with
      | nil => exact .nil
      | cons c r ih => exact .cons (.str _) ih
  · rw [look_mem nd tm] at q1
    cases q1
end
end K01
set_option Elab.async false
set_option linter.all false
set_option maxRecDepth 100000
set_option maxHeartbeats 4000000
namespace K01
open PySem PySem.Spec PyProof.Rows L2 Gd Evl Dl
theorem sIx_some {n d : Nat} (k : Nat) : HT.sIx n d (some (k : Int)) = min k n := by
  show (if (k : Int) < 0 then ((k : Int) + (n : Int)).toNat else min (k : Int).toNat n) = _
  rw [if_neg (by omega), Int.toNat_natCast]
theorem cutD_hi {ds : List PyData} (n : Nat) : Dl.cutD ds none (some (n : Int)) = ds.take n := by
  unfold Dl.cutD
  rw [sIx_some]
  show (ds.drop 0).take (min n ds.length - 0) = ds.take n
  rw [List.drop_zero, Nat.sub_zero, List.take_eq_take_iff]
  omega
theorem cutD_lo {ds : List PyData} (n : Nat) : Dl.cutD ds (some (n : Int)) none = ds.drop n := by
  unfold Dl.cutD
  rw [sIx_some]
  show (ds.drop (min n ds.length)).take (ds.length - min n ds.length) = ds.drop n
  have e : ds.drop (min n ds.length) = ds.drop n := by
    by_cases h : n ≤ ds.length
    · rw [Nat.min_eq_left h]
    · rw [Nat.min_eq_right (by omega), List.drop_length, List.drop_eq_nil_of_le (by omega)]
  rw [e, List.take_of_length_le]
  rw [List.length_drop]
  omega
abbrev NPn : List Str := ["pen", "tables", "name", "many", "size", "named", "columns", "column"]
def spPlan (K : PySem.W.Frag) : DSpec := fun es b R _ => ∃ b0 : Nat, es = [.pen] ∧ b = b0 + 240 ∧ ∀ p, PlanOk p → R (.ownX K XC (p.map planP)) b0
section
variable {P : Program} {w : World} {K : PySem.W.Frag} {mg : Str → Option Value} {base : Heap} {f fN fD fNm fNs : Addr} {fd fdN fdD fdNm fdNs : FuncData}
theorem scPlan : FnScope NPn ["pen"] (defScope sPlan) := ⟨rfl, rfl, rfl, by decide +kernel, rfl, by decide +kernel, by decide +kernel⟩
structure LpT (K : PySem.W.Frag) (mg : Str → Option Value) (fN fD fNm fNs : Addr) (fdN fdD fdNm fdNs : FuncData) : Prop where
  l : LnT K mg fN fD fNm fdN fdD fdNm
  ns : FnP K "_law_names" sNames fNs fdNs
  gNs : mg "_law_names" = some (.ref fNs)
  tuple : mg "tuple" = none
theorem ok_plan (T : LpT K mg fN fD fNm fNs fdN fdD fdNm fdNs) (F : FnP K "_law_plan" sPlan f fd) : FnOk P w K mg base CX0 5 f fd ["pen"] (spD K 1 false [] (spPlan K)) := by
  have GD : FnOk P w K mg base CX0 2 fD fdD ["pen", "under"] spDraw := ok_draw T.l.dr.pen T.l.n T.l.d
  have bD : Binds K fdD ["pen", "under"] [] := T.l.d.bindsN fun _ _ _ _ _ _ us hl => match us, hl with | [_, _], _ => rfl
  have GN : FnOk P w K mg base CX0 4 fNs fdNs ["pen", "size"] (spD K 2 false [] spNames) := ok_names T.l T.ns
  have bN : Binds K fdNs ["pen", "size"] [] := T.ns.bindsN fun _ _ _ _ _ _ us hl => match us, hl with | [_, _], _ => rfl
  refine F.ok scPlan (fun vs H Q E h => spD_len h) (fun cdv A outer s H vs Q E hr h => ⟨_, PSs.nox (pss_cons (ps_set (i := 1) scPlan.nd rfl (Or.inl rfl) pe_dnewK)
    (pss_cons (ps_for PassesOwn.never rfl (pi_list (pe_call GN hr (by rfl) T.gNs T.ns.kp bN .nil pass0 (pa_cons (pv 0) (pa_cons (pe_op op_add pe_int (pe_call GD (hr.mono (by decide)) (by rfl) T.l.dr.gD T.l.d.kp bD .nil pass0 (pa_cons (pv 0) (pa_cons pe_int pa_nil)))) pa_nil)))) (pg_name (i := 2) scPlan.nd rfl (Or.inl rfl))
      (pss_cons (ps_par (i := 3) (j := 4) rfl scPlan.nd rfl rfl (by decide) rfl rfl (pa_cons (pe_op op_add pe_int (pe_call GD (hr.mono (by decide)) (by rfl) T.l.dr.gD T.l.d.kp bD .nil pass0 (pa_cons (pv 0) (pa_cons pe_int pa_nil)))) (pa_cons (pe_call GD (hr.mono (by decide)) (by rfl) T.l.dr.gD T.l.d.kp bD .nil pass0 (pa_cons (pv 0) (pa_cons pe_int pa_nil))) pa_nil)) (by rfl))
      (pss_cons (ps_set (i := 5) scPlan.nd rfl (Or.inl rfl) (pe_call GN hr (by rfl) T.gNs T.ns.kp bN .nil pass0 (pa_cons (pv 0) (pa_cons (pe_op op_add (pv 3) (pv 4)) pa_nil))))
      (pss_cons (ps_set (i := 6) scPlan.nd rfl (Or.inl rfl) (pe_callTy call_tupX (by rfl) T.tuple (by decide +kernel) (pa_cons (pe_lc (own := [("column", 7)]) (g := gName 7) (tt := tYes) rfl scPlan.nd (pi_list (pe_slice sl_list (pv 5) po_none (po_some (pv 3)))) (blkOk_by (N := NPn) (sc := defScope sPlan) (by decide +kernel)) (fun _ _ _ _ _ => pg_name (i := 7) scPlan.nd rfl (Or.inl rfl)) (fun _ _ _ _ _ => pts_nil)
          (fun _ _ _ _ _ => pe_tup (pa_cons (pv 7) (pa_cons (pe_ix (r := rIxL K) (by exact ix_list) (pe_lst (pa_cons pe_str (pa_cons pe_str (pa_cons pe_str pa_nil)))) (pe_call GD (hr.mono (by decide)) (by rfl) T.l.dr.gD T.l.d.kp bD .nil pass0 (pa_cons (pv 0) (pa_cons pe_int pa_nil))) (fun _ _ => rfl)) pa_nil)))) pa_nil)))
      (pss_one (ps_dput (hu_of hr) (pv 1) (pv 2) (pe_tup (pa_cons (pv 6) (pa_cons (pe_callTy call_tuple_of (by rfl) T.tuple (by decide +kernel) (pa_cons (pe_slice sl_list (pv 5) (po_some (pv 3)) po_none) pa_nil)) pa_nil))) (by rfl)))))))
    (pss_one (ps_ret (pv 1))))), ?_⟩)
  refine spD_enter h (by decide) fun B b es R he hT hu hX hBX ⟨b0, e, hb, hR⟩ => ?_
  subst e hb
  refine mz_seq (mz_set (me_dnewX ?_))
  refine mz_seq (mz_for (mi_list (me_call (.inl rfl) (fun z => nomatch z) (ma_cons (me_var (ma_cons (me_op (me_int ?_))))))))
  refine me_callV (ma_cons (me_var (ma_cons (me_int (ma_nil ?_)))))
  refine cd_draw (b := b0 + 239) (by decide) (by decide) fun g g0 g1 => ?_
  refine opd_I0 (d := .int (1 + g)) (.int _) (ma_nil ⟨rfl, ?_⟩)
  obtain ⟨n, hn⟩ : ∃ n : Nat, 1 + g = (n : Int) := ⟨(1 + g).toNat, by omega⟩
  refine ⟨n, b0 + 239 - 9 * n, by rw [hn] <;> rfl, by omega, by omega, fun xs xl xnd xok => ⟨_, rfl, ?_⟩⟩
  refine ⟨fun i δ b' => ∃ (q : List Tab) (x2 x3 x4 x5 x6 x7 : Option Dv), δ = [some .pen, some (.ownX K XC (q.map planP)), x2, x3, x4, x5, x6, x7] ∧ q.map (·.1) = xs.take i ∧ (∀ t ∈ q, TabOk t) ∧ b0 + 50 * (4 - i) ≤ b',
    ⟨[], none, none, none, none, none, none, rfl, by simp, (fun t z => by cases z), by omega⟩, ?_, ?_⟩
  · rintro i d δ b' hi ⟨q, x2, x3, x4, x5, x6, x7, rfl, hq, tok, hb⟩
    obtain ⟨nm, hnm, rfl⟩ := get_map hi
    have hil : i < n := by
      have := (List.getElem?_eq_some_iff.mp hnm).1
      omega
    have nmok := xok nm (List.mem_of_getElem? hnm)
    obtain ⟨c, hc⟩ : ∃ c, c = b0 + 50 * (4 - (i + 1)) := ⟨_, rfl⟩
    refine mg_name (mz_less (n := c + 50) (by omega) ?_)
    refine mz_seq (mz_par (ma_cons (me_op (me_int ?_))))
    refine me_callV (ma_cons (me_var (ma_cons (me_int (ma_nil ?_)))))
    refine cd_draw (b := c + 49) (by decide) (by decide) fun g1 g10 g11 => ?_
    refine opd_I0 (d := .int (1 + g1)) (.int _) ?_
    refine ma_cons (me_callV (ma_cons (me_var (ma_cons (me_int (ma_nil ?_))))))
    refine cd_draw (b := c + 48) (by decide) (by decide) fun g2 g20 g21 => ?_
    obtain ⟨many, hmany⟩ : ∃ n : Nat, 1 + g1 = (n : Int) := ⟨(1 + g1).toNat, by omega⟩
    obtain ⟨size, hsize⟩ : ∃ n : Nat, g2 = (n : Int) := ⟨g2.toNat, by omega⟩
    rw [hmany, hsize]
    refine ma_nil ⟨_, _, rfl, ?_⟩
    -- named
    refine mz_seq (mz_setF (me_call (.inl rfl) (fun z => nomatch z) (ma_cons (me_var (ma_cons (me_op (me_var (me_var ?_))))))))
    refine opd_I0 (d := .int ((many : Int) + (size : Int))) (.int _) (ma_nil ⟨rfl, ?_⟩)
    refine ⟨many + size, c + 48 - 9 * (many + size), rfl, by omega, by omega, fun ys yl ynd yok => ?_⟩
    obtain ⟨e, he⟩ : ∃ e, e = c + 48 - 9 * (many + size) := ⟨_, rfl⟩
    rw [← he]
    -- columns
    refine mz_seq (mz_set (me_cb (ma_cons ?_)))
    refine me_lcN (j := 7) (mi_list (me_slL (me_var ⟨_, rfl, mo_none (mo_some (me_var ⟨_, rfl, ?_⟩))⟩)))
    refine ⟨_, rfl, ?_⟩
    rw [cutD_hi, ← List.map_take]
    refine ⟨?_, fun i acc b' => ∃ cs : List (Str × Str), acc = cs.map colD ∧ cs.map (·.1) = (ys.take many).take i ∧ (∀ c ∈ cs, isNameS c.2 = true) ∧ b' + i = e, ⟨[], rfl, by simp, (fun c z => by cases z), rfl⟩, ?_, ?_⟩
    · rw [List.length_map, List.length_take]
      omega
    · rintro i' d' acc b' hi' ha ⟨cs, rfl, hcs, hk, hb'⟩
      obtain ⟨cn, hcn, rfl⟩ := get_map hi'
      have il : i' < (ys.take many).length := (List.getElem?_eq_some_iff.mp hcn).1
      rw [List.length_take] at il
      obtain ⟨e', he'⟩ : ∃ e', b' = e' + 1 := ⟨b' - 1, by omega⟩
      subst he'
      refine mt_yes ⟨fun _ => me_tup (ma_cons (me_var (ma_cons (me_op ?_)))), fun z => nomatch z⟩
      refine me_lst (ma_cons (me_str (ma_cons (me_str (ma_cons (me_str ?_))))))
      refine ma_nil ⟨[.str "k", .str "land", .str "m"], rfl, le3, ?_⟩
      refine me_callV (ma_cons (me_var (ma_cons (me_int (ma_nil ?_)))))
      refine cd_draw (b := e') (by decide) (by decide) fun g3 g30 g31 => ?_
      obtain ⟨k, hk1, hk2⟩ : ∃ k : Str, atI [PyData.str "k", .str "land", .str "m"] g3 = some (.str k) ∧ isNameS k = true := by
        have : g3 = 0 ∨ g3 = 1 ∨ g3 = 2 := by omega
        rcases this with rfl | rfl | rfl
        · exact ⟨"k", rfl, by decide +kernel⟩
        · exact ⟨"land", rfl, by decide +kernel⟩
        · exact ⟨"m", rfl, by decide +kernel⟩
      refine opd_ixL (d := .str k) hk1 (ma_nil ⟨_, rfl, le2, _, rfl, cs ++ [(cn, k)], ?_, ?_, ?_, by omega⟩)
      · rw [List.map_append] <;> rfl
      · rw [List.map_append, hcs, take_snoc hcn] <;> rfl
      · intro c hc
        rcases List.mem_append.mp hc with hc | hc
        · exact hk c hc
        · have : c = (cn, k) := by simpa using hc
          rw [this]
          exact hk2
    · rintro acc b' ⟨cs, rfl, hcs, hk, hb'⟩
      rw [List.length_map] at hcs hb'
      rw [List.take_length] at hcs
      have hcl : cs.length = min many ys.length := by
        have := congrArg List.length hcs
        rwa [List.length_map, List.length_take] at this
      refine ma_nil (cd_tupX (fun z => ?_) ?_)
      · rw [z] at hcl
        have : (0 : Nat) = min many ys.length := hcl
        omega
      refine mz_dputX (ps := q.map planP) (me_tupX (cs := cs) (fs := ys.drop many) (me_var (e := .mp (ColX K cs)) (me_cb (ma_cons (me_slL (me_var ?_))))))
      refine ⟨_, rfl, mo_some (me_var ⟨_, rfl, mo_none (ma_nil ?_)⟩)⟩
      rw [show Dv.fz (.own (Dl.cutD (ys.map PyData.str) (some (many : Int)) none)) = .dat (.list ((ys.drop many).map PyData.str)) from by rw [cutD_lo, ← List.map_drop] <;> rfl]
      refine cd_tupL ⟨rfl, rfl, me_var ⟨.inr nm, (cs, ys.drop many), rfl, rfl, ?_, ?_⟩⟩
      · rw [List.length_map]
        have := congrArg List.length hq
        rw [List.length_map, List.length_take] at this
        omega
      have nin : nm ∉ q.map (·.1) := by
        rw [hq]
        have := nd_take (f := id) (by rwa [List.map_id]) hnm
        rwa [List.map_id] at this
      have nany : ¬ ((q.map planP).any fun p => keyIs p.1 (.inr nm)) = true := fun z => by
        obtain ⟨p, hp, e⟩ := List.any_eq_true.mp z
        obtain ⟨t, ht, rfl⟩ := List.mem_map.mp hp
        have : t.1 = nm := of_decide_eq_true e
        exact nin (this ▸ List.mem_map_of_mem ht)
      refine ⟨q ++ [(nm, cs, ys.drop many)], _, _, _, _, _, _, congrArg (fun z => [_, some (Dv.ownX K XC z), _, _, _, _, _, _]) ?_, ?_, ?_, ?_⟩
      · unfold putD
        rw [if_neg nany, List.map_append] <;> rfl
      · rw [List.map_append, hq, take_snoc hnm] <;> rfl
      · intro t ht
        rcases List.mem_append.mp ht with ht | ht
        · exact tok t ht
        · have : t = (nm, cs, ys.drop many) := by simpa using ht
          subst this
          exact {
            nm := nmok
            c1 := by show 1 ≤ cs.length; omega
            c3 := by show cs.length ≤ 3; omega
            f2 := by show (ys.drop many).length ≤ 2; rw [List.length_drop]; omega
            cn := fun c hc => ⟨yok c.1 (List.mem_of_mem_take (hcs ▸ List.mem_map_of_mem hc)), hk c hc⟩
            fn := fun f hf => yok f (List.mem_of_mem_drop hf)
            nd := by
              show (cs.map (·.1) ++ ys.drop many).Nodup
              rw [hcs, List.take_append_drop]
              exact ynd }
      · rw [List.length_take] at hb'
        omega
  · rintro δ b' ⟨q, x2, x3, x4, x5, x6, x7, rfl, hq, tok, hb⟩
    rw [List.length_map] at hq hb
    rw [List.take_length] at hq
    refine mz_less (n := b0) (by omega) (mz_retO (hR q ?_))
    have ql : q.length = xs.length := by
      have := congrArg List.length hq
      rwa [List.length_map] at this
    exact ⟨by omega, by omega, tok, by rw [hq]; exact xnd⟩
end
end K01
set_option Elab.async false
set_option linter.all false
set_option maxRecDepth 100000
set_option maxHeartbeats 4000000
/-! the data level: chains, signs -/
namespace Dl
open PySem PySem.Spec PyProof.Rows L2 Evl Gd LamX
section
variable {K : PySem.W.Frag} {B : Base} {F F' H H' : Hp} {v : V} {e : Dv} {δ : Env} {b n : Nat} {σ : L2.St} {ta tb tc te : TE} {R : Dv → Nat → Prop} {E : Ed} {D : Ends}
/-- a < b < c -/
theorem me_chain {r r' : R2} (h : Me K B ta δ b fun x b1 => Me K B tb δ b1 fun y b2 => OpD K B r x.fz y.fz fun e => ∃ k, e = .dat (.bool k) ∧ (k = true → Me K B tc δ b2 fun w b3 => OpD K B r' y.fz w.fz fun e => R e b3) ∧ (k = false → R (.dat (.bool false)) b2)) : Me K B (tChain r r' ta tb tc) δ b R := fun σ F H s Q q =>
  Me.run (Rest := fun x b1 => Me K B tb δ b1 fun y b2 => OpD K B r x y.fz fun e => ∃ k, e = .dat (.bool k) ∧ (k = true → Me K B tc δ b2 fun w b3 => OpD K B r' y.fz w.fz fun e => R e b3) ∧ (k = false → R (.dat (.bool false)) b2)) h s fun vx x b1 F1 H1 h1 s1 g1 d1 =>
    Me.run (Rest := fun y b2 => OpD K B r x y fun e => ∃ k, e = .dat (.bool k) ∧ (k = true → Me K B tc δ b2 fun w b3 => OpD K B r' y w.fz fun e => R e b3) ∧ (k = false → R (.dat (.bool false)) b2)) h1 (s.back s1 g1) fun vy y b2 F2 H2 h2 s2 g2 d2 =>
      h2 b2 F2 H2 s2 vx vy (d1.up g2.ex) d2 _ fun v e F3 H3 ⟨k, e1, p1, p2⟩ s3 g3 d3 a3 => by
        subst e1
        cases (show Dq K F3 v (.bool k) from d3)
        refine ⟨k, rfl, ?_⟩
        have s13 := s.back s3 ((g1.trans g2).trans g3)
        cases k with
        | true =>
          rw [if_pos rfl]
          refine Me.run (Rest := fun w b3 => OpD K B r' y w fun e => R e b3) (p1 rfl) s13 fun vw w b4 F4 H4 h4 s4 g4 d4 => ?_
          exact h4 b4 F4 H4 s4 vy vw (d2.up (g3.ex.trans g4.ex)) d4 Q fun v e F5 H5 r5 s5 g5 d5 a5 => q v e b4 F5 H5 r5 s5 ((((g1.trans g2).trans g3).trans g4).trans g5) d5 (a5.back (((g1.trans g2).trans g3).trans g4) s4)
        | false =>
          rw [if_neg Bool.false_ne_true]
          exact q _ _ b2 F3 H3 (p2 rfl) s3 ((g1.trans g2).trans g3) (.bl false) (Nw.no rfl)
abbrev rSign : R2 := fun x y H Q => ∃ (c : Nat) (z : Str), x = .str ⟨#[c]⟩ ∧ y = .str z ∧ Q (.bl (decide (c ∈ z.cps.toList))) H
/-- a sign in a text -/
theorem opd_sign {c : Nat} {z : Str} {R : Dv → Prop} (k : R (.dat (.bool (decide (c ∈ z.cps.toList))))) : OpD K B rSign (.dat (.str ⟨#[c]⟩)) (.dat (.str z)) R := opd_pure (d := .bool (decide (c ∈ z.cps.toList))) (fun F H vx vy Q _ hx hy q => by
  cases (show Dq K F vx (.str ⟨#[c]⟩) from hx)
  cases (show Dq K F vy (.str z) from hy)
  exact ⟨c, z, rfl, rfl, q _ (.bl _)⟩) k
end
end Dl
set_option Elab.async false
set_option linter.all false
set_option maxRecDepth 100000
set_option maxHeartbeats 4000000
namespace K01
open PySem PySem.Spec PyProof.Rows L2 Gd Evl Dl
/-- a bool, of data -/
def spIs (f : PyData → Bool) : DSpec := fun es b R _ => ∃ d, es = [.dat d] ∧ small d = true ∧ R (.dat (.bool (f d))) b
def alpha : Str := "abcdefghijklmnopqrstuvwxyz"
theorem alpha_low (c : Nat) : decide (c ∈ alpha.cps.toList) = low c := by
  have e : alpha.cps.toList = (List.range 26).map (97 + ·) := by decide +kernel
  rw [e]
  unfold low
  rw [← Bool.decide_and]
  refine decide_eq_decide.mpr ⟨fun h => ?_, fun h => ?_⟩
  · obtain ⟨k, hk, rfl⟩ := List.mem_map.mp h
    have := List.mem_range.mp hk
    omega
  · exact List.mem_map.mpr ⟨c - 97, List.mem_range.mpr (by omega), by omega⟩
def sgnD : PyData → PyData
  | .str y => .bool (low (y.cps.toList.headD 0))
  | d => d
theorem sgnD_all (x : Str) : (x.cps.toList.map fun c => PyData.str ⟨#[c]⟩).map sgnD = (x.cps.toList.map low).map .bool := by
  rw [List.map_map, List.map_map] <;> rfl
structure LiT (mg : Str → Option Value) : Prop where
  isi : mg "isinstance" = none
  str : mg "str" = none
  dict : mg "dict" = none
  len : mg "len" = none
  all : mg "all" = none
section
variable {P : Program} {w : World} {K : PySem.W.Frag} {mg : Str → Option Value} {base : Heap} {f : Addr} {fd : FuncData}
abbrev NLi : List Str := ["thing", "sign"]
theorem scLIs : FnScope NLi ["thing"] (defScope sLIsName) := ⟨rfl, rfl, rfl, by decide +kernel, rfl, by decide +kernel, by decide +kernel⟩
theorem ok_lisname (T : LiT mg) (F : FnP K "_law_is_name" sLIsName f fd) : FnOk P w K mg base CX0 1 f fd ["thing"] (spD K 1 false [] (spIs isNameD)) := by
  refine F.ok scLIs (fun vs H Q E h => spD_len h) (fun cdv A outer s H vs Q E hr h => ⟨_, PSs.nox (pss_cons (ps_if (PW.pt (pw_or (pt_not (pt_val (pe_callB call_isi (by rfl) T.isi (by decide +kernel) (pa_cons (pv 0) (pa_cons (pe_bltn (v := .ty "str") (by rfl) T.str (by decide +kernel) rfl) pa_nil)))))
      (pw_or1 (pt_not (pt_chain op_le op_le pe_int (pe_callB call_len_str (by rfl) T.len PySem.boot_len (pa_cons (pv 0) pa_nil)) pe_int))))) (pss_one (ps_ret pe_bl)) pss_nil)
    (pss_cons (ps_if (pt_cmpR op_in_seq (pv 0) (pe_tup (pa_cons pe_str (pa_cons pe_str (pa_cons pe_str (pa_cons pe_str (pa_cons pe_str (pa_cons pe_str pa_nil))))))) (by rfl)) (pss_one (ps_ret pe_bl)) pss_nil)
    (pss_one (ps_ret (pe_callB (cr_all rfl) (by rfl) T.all (by decide +kernel) (pa_cons (pe_lc (own := [("sign", 1)]) (g := gName 1) (tt := tYes) rfl scLIs.nd (pi_str (pv 0)) (blkOk_by (N := NLi) (sc := defScope sLIsName) (by decide +kernel)) (fun _ _ _ _ _ => pg_name (i := 1) scLIs.nd rfl (Or.inl rfl)) (fun _ _ _ _ _ => pts_nil) (fun _ _ _ _ _ => pe_cmpR (r := rSign) (by exact op_in_sign) (pv 1) pe_str (by rfl))) pa_nil)))))), ?_⟩)
  refine spD_enter h (by decide) fun B b es R he hT hu hX hBX ⟨d, e, hs, hR⟩ => ?_
  subst e
  refine mz_seq (mz_if (mt_or (mt_not (mt_B (me_isi (me_var ⟨d, rfl, _, rfl, fun k => ?_, fun k => ⟨fun _ => ?_, fun z => nomatch z⟩⟩))))))
  · obtain ⟨x, rfl⟩ := ty_is (d := d) (by simpa using k)
    have hx : x.length ≤ 1000 := by simpa [small] using hs
    refine mt_not (mt_B (me_chain (me_int (me_cb (ma_cons (me_var (ma_nil ?_)))))))
    refine cd_lenS (by omega) ?_
    refine opd_I0 (d := .bool (decide ((1 : Int) ≤ (x.length : Int)))) (.bl _) ⟨_, rfl, fun k1 => me_int ?_, fun k1 => ⟨_, rfl, fun _ => ?_, fun z => nomatch z⟩⟩
    · refine opd_I0 (d := .bool (decide ((x.length : Int) ≤ 8))) (.bl _) ⟨_, rfl, fun k2 => ?_, fun k2 => ?_⟩
      · have h2 : ¬ (x.length : Int) ≤ 8 := by
          have k2' : (!decide ((x.length : Int) ≤ 8)) = true := k2
          simpa using k2'
        have : isNameD (.str x) = false := by
          show isNameS x = false
          unfold isNameS
          rw [decide_eq_false (show ¬ x.length ≤ 8 by omega)]
          simp
        exact mz_ret (me_bl (this ▸ hR))
      · refine mz_next (mz_seq (mz_if ?_))
        refine mt_test (me_op (me_var (me_tup ?_)))
        refine ma_cons (me_str (ma_cons (me_str (ma_cons (me_str ?_)))))
        refine ma_cons (me_str (ma_cons (me_str (ma_cons (me_str ?_)))))
        refine ma_nil ⟨noNames.map .str, rfl, show 6 ≤ 100000 by decide, ?_⟩
        refine opd_inST (xs := noNames) ⟨_, rfl, fun k3 => mz_ret (me_bl ?_), fun k3 => mz_next ?_⟩
        · have k3' : noNames.contains x = true := k3
          have : isNameD (.str x) = false := by
            show isNameS x = false
            unfold isNameS
            rw [k3']
            simp
          exact this ▸ hR
        · have k3' : noNames.contains x = false := k3
          refine mz_ret (me_cb (ma_cons (me_map (mi_str (me_var ⟨x, rfl, ?_, sgnD, fun d hd => ?_, ma_nil ?_⟩)))))
          · rw [List.length_map]
            have : x.cps.toList.length = x.length := by simp [Str.length]
            omega
          · obtain ⟨c, _, rfl⟩ := List.mem_map.mp hd
            refine me_op (me_var (e := .dat (.str ⟨#[c]⟩)) (me_str ?_))
            refine opd_sign (c := c) (z := alpha) ?_
            rw [alpha_low]
            exact ⟨rfl, rfl⟩
          · rw [sgnD_all]
            refine cd_all ?_
            have : isNameD (.str x) = (x.cps.toList.map low).all id := by
              show isNameS x = _
              unfold isNameS
              rw [k3', List.all_map]
              have h1 : (1 : Int) ≤ (x.length : Int) := of_decide_eq_true k1
              have h2 : (x.length : Int) ≤ 8 := by
                have k2' : (!decide ((x.length : Int) ≤ 8)) = false := k2
                simpa using k2'
              rw [decide_eq_true (show 1 ≤ x.length by omega), decide_eq_true (show x.length ≤ 8 by omega)]
              rfl
            exact this ▸ hR
    · have h2 : ¬ (1 : Int) ≤ (x.length : Int) := of_decide_eq_false k1
      have : isNameD (.str x) = false := by
        show isNameS x = false
        unfold isNameS
        rw [decide_eq_false (show ¬ 1 ≤ x.length by omega)]
        rfl
      exact mz_ret (me_bl (this ▸ hR))
  · have : isNameD d = false := by
      cases d with
      | str x => exact absurd k (show ¬ (!decide ("str" = "str")) = true by decide)
      | _ => rfl
    exact mz_ret (me_bl (this ▸ hR))
end
end K01
set_option Elab.async false
set_option linter.all false
set_option maxRecDepth 100000
set_option maxHeartbeats 4000000
namespace Dl
open PySem PySem.Spec PyProof.Rows L2 Evl Gd LamX
section
variable {K : PySem.W.Frag} {B : Base} {b : Nat} {R : Dv → Nat → Prop}
abbrev rLenD : List V → Hp → VK → Prop := fun xs H Q => ∃ a kvs, xs = [V.ref a] ∧ H a = some (.dK kvs) ∧ Q (.int kvs.length) H
/-- len(d) -/
theorem cd_lenK {ps : List (PyData × PyData)} (hu : B.free = true ∧ B.lk = []) (k : R (.dat (.int (ps.length : Int))) b) : CallD K B rLenD [.dat (.dict ps)] b R := fun F H s vs hs Q q => by
  obtain ⟨v, rfl, h⟩ := df1 hs
  cases (show Dq K F v (.dict ps) from h) with
  | @dct a kvs _ hr hk hv =>
    rcases hr with hr | ⟨o, hr⟩
    · have hl : kvs.length = ps.length := by
        have := congrArg List.length hk
        simpa using this.symm
      refine ⟨a, kvs, rfl, s.unl hu.1 hu.2 hr, q _ _ b F H k s (Go.refl _ _) ?_ (Nw.no rfl)⟩
      rw [hl]
      exact Dq.int _
    · exact (xt_no (s.nfz a o _ hr) (fun _ z => nomatch z)).elim
theorem lookK_mem : ∀ {ps : List (PyData × PyData)} {k : Key} {d : PyData}, (ps.map (·.1)).Nodup → (∀ p ∈ ps, ∃ k : Key, p.1 = keyD k) → (keyD k, d) ∈ ps → lookK ps k = some d
  | [], _, _, _, _, h => by cases h
  | p :: ps, k, d, nd, hk, h => by
    rw [List.map_cons, List.nodup_cons] at nd
    unfold lookK
    rw [List.find?_cons]
    rcases List.mem_cons.mp h with rfl | h
    · rw [keyIs_key, decide_eq_true rfl] <;> rfl
    · obtain ⟨k', e⟩ := hk p List.mem_cons_self
      have ne : k' ≠ k := fun z => nd.1 (by
        rw [e, z]
        exact List.mem_map_of_mem (f := fun x : PyData × PyData => x.1) h)
      rw [e, keyIs_key, decide_eq_false ne]
      exact lookK_mem nd.2 (fun p hp => hk p (List.mem_cons_of_mem _ hp)) h
def keyOf : PyData → Key
  | .str s => .inr s
  | .int i => .inl i
  | _ => .inl 0
theorem keyOf_key (k : Key) : keyOf (keyD k) = k := by cases k <;> rfl
end
end Dl
namespace K01
open PySem PySem.Spec PyProof.Rows L2 Gd Evl Dl
/-- a dict as such -/
def DOk (d : PyData) : Prop := ∀ ds, d = .dict ds → (ds.map (·.1)).Nodup ∧ ∀ p ∈ ds, ∃ k : Key, p.1 = keyD k
def spIsD (f : PyData → Bool) : DSpec := fun es b R _ => ∃ d, es = [.dat d] ∧ small d = true ∧ DOk d ∧ R (.dat (.bool (f d))) b
theorem isPlanD_eq (ps : List (PyData × PyData)) : isPlanD (.dict ps) = (decide (1 ≤ ps.length) && decide (ps.length ≤ 4) && ps.all fun p => isNameD p.1 && isTableD p.2) := rfl
theorem ty_dict {d : PyData} (h : tyD d = "dict") : ∃ x, d = .dict x := by
  cases d with
  | dict x => exact ⟨x, rfl⟩
  | none => exact absurd h (by decide)
  | bool _ => exact absurd h (by decide : ¬ "bool" = "dict")
  | int _ => exact absurd h (by decide : ¬ "int" = "dict")
  | list _ => exact absurd h (by decide : ¬ "list" = "dict")
  | tuple _ => exact absurd h (by decide : ¬ "tuple" = "dict")
  | str _ => exact absurd h (by decide : ¬ "str" = "dict")
section
variable {P : Program} {w : World} {K : PySem.W.Frag} {mg : Str → Option Value} {base : Heap} {f fN fT : Addr} {fd fdN fdT : FuncData}
abbrev NLp : List Str := ["thing", "name"]
theorem scLPl : FnScope NLp ["thing"] (defScope sLIsPlan) := ⟨rfl, rfl, rfl, by decide +kernel, rfl, by decide +kernel, by decide +kernel⟩
theorem ok_lisplan (T : LiT mg) (FN : FnP K "_law_is_name" sLIsName fN fdN) (FT : FnP K "_law_is_table" sLIsTable fT fdT) (GT : FnOk P w K mg base CX0 2 fT fdT ["thing"] (spD K 1 false [] (spIs isTableD)))
    (gN : mg "_law_is_name" = some (.ref fN)) (gT : mg "_law_is_table" = some (.ref fT)) (F : FnP K "_law_is_plan" sLIsPlan f fd) : FnOk P w K mg base CX0 3 f fd ["thing"] (spD K 1 true [] (spIsD isPlanD)) := by
  have GN : FnOk P w K mg base CX0 1 fN fdN ["thing"] (spD K 1 false [] (spIs isNameD)) := ok_lisname T FN
  have bN : Binds K fdN ["thing"] [] := FN.bindsN fun _ _ _ _ _ _ us hl => match us, hl with | [_], _ => rfl
  have bT : Binds K fdT ["thing"] [] := FT.bindsN fun _ _ _ _ _ _ us hl => match us, hl with | [_], _ => rfl
  refine F.ok scLPl (fun vs H Q E h => spD_len h) (fun cdv A outer s H vs Q E hr h => ⟨_, PSs.nox (pss_cons (ps_if (PW.pt (pw_or (pt_not (pt_val (pe_callB call_isi (by rfl) T.isi (by decide +kernel) (pa_cons (pv 0) (pa_cons (pe_bltn (v := .ty "dict") (by rfl) T.dict (by decide +kernel) rfl) pa_nil)))))
      (pw_or1 (pt_not (pt_chain op_le op_le pe_int (pe_callB call_lenD (by rfl) T.len PySem.boot_len (pa_cons (pv 0) pa_nil)) pe_int))))) (pss_one (ps_ret pe_bl)) pss_nil)
    (pss_one (ps_ret (pe_callB (cr_all rfl) (by rfl) T.all (by decide +kernel) (pa_cons (pe_lock (pe_lc (own := [("name", 1)]) (g := gName 1) (tt := tYes) rfl scLPl.nd (pi_keys (pv 0)) (blkOk_by (N := NLp) (sc := defScope sLIsPlan) (by decide +kernel)) (fun _ _ _ _ _ => pg_name (i := 1) scLPl.nd rfl (Or.inl rfl)) (fun _ _ _ _ _ => pts_nil)
      (fun _ _ _ _ _ => pe_and (pe_call GN (hr.mono (by decide)) rfl gN FN.kp bN .nil pass0 (pa_cons (pv 1) pa_nil)) (pe_one (pe_call GT hr rfl gT FT.kp bT .nil pass0 (pa_cons (pe_dget (hu_of hr) (pv 0) (pv 1) (fun _ _ => rfl)) pa_nil)))))) pa_nil))))), ?_⟩)
  refine spD_enter h (by decide) fun B b es R he hT hu hX hBX ⟨d, e, hs, hk, hR⟩ => ?_
  subst e
  have hul := hu rfl
  refine mz_seq (mz_if (mt_or (mt_not (mt_B (me_isi (me_var ⟨d, rfl, _, rfl, fun k => ?_, fun k => ⟨fun _ => ?_, fun z => nomatch z⟩⟩))))))
  · obtain ⟨ps, rfl⟩ := ty_dict (d := d) (by simpa using k)
    obtain ⟨nd, keys⟩ := hk ps rfl
    obtain ⟨zl, sk⟩ : ps.length ≤ 1000 ∧ smallKv ps = true := by simpa [small] using hs
    have no : ¬ (1 ≤ ps.length ∧ ps.length ≤ 4) → isPlanD (.dict ps) = false := fun z => by
      rw [isPlanD_eq]
      by_cases h1 : 1 ≤ ps.length
      · rw [decide_eq_false (show ¬ ps.length ≤ 4 from fun h2 => z ⟨h1, h2⟩)]
        simp
      · rw [decide_eq_false h1]
        rfl
    refine mt_not (mt_B (me_chain (me_int (me_cb (ma_cons (me_var (ma_nil ?_)))))))
    refine cd_lenK hul ?_
    refine opd_I0 (d := .bool (decide ((1 : Int) ≤ (ps.length : Int)))) (.bl _) ⟨_, rfl, fun k1 => me_int ?_, fun k1 => ⟨_, rfl, fun _ => ?_, fun z => nomatch z⟩⟩
    · refine opd_I0 (d := .bool (decide ((ps.length : Int) ≤ 4))) (.bl _) ⟨_, rfl, fun k2 => ?_, fun k2 => ?_⟩
      · have k2' : (!decide ((ps.length : Int) ≤ 4)) = true := k2
        have h2 : ¬ (ps.length : Int) ≤ 4 := by simpa using k2'
        exact mz_ret (me_bl (no (fun z => h2 (by omega)) ▸ hR))
      · have k2' : (!decide ((ps.length : Int) ≤ 4)) = false := k2
        have h2 : (ps.length : Int) ≤ 4 := by simpa using k2'
        have h1 : (1 : Int) ≤ (ps.length : Int) := of_decide_eq_true k1
        refine mz_next (mz_ret (me_cb (ma_cons ?_)))
        obtain ⟨f, hf⟩ : ∃ f : PyData → PyData, f = fun x => .bool (isNameD x && (match lookK ps (keyOf x) with | some t => isTableD t | none => false)) := ⟨_, rfl⟩
        have fe : ∀ p ∈ ps, f p.1 = .bool (isNameD p.1 && isTableD p.2) := fun p hp => by
          obtain ⟨k, ek⟩ := keys p hp
          rw [hf]
          show PyData.bool (isNameD p.1 && (match lookK ps (keyOf p.1) with | some t => isTableD t | none => false)) = _
          rw [ek, keyOf_key, lookK_mem nd keys (show (keyD k, p.2) ∈ ps from ek ▸ hp)]
        refine me_lcK (dk_var rfl hul.1 hul.2) (by omega) f (fun a o p hp => ?_) (ma_nil ?_)
        · obtain ⟨k, ek⟩ := keys p hp
          obtain ⟨s1, s2⟩ := small_kv sk p hp
          refine me_and (me_call (.inl rfl) (fun z => nomatch z) (ma_cons (me_var (e := .dat p.1) (ma_nil ⟨rfl, p.1, rfl, s1, _, rfl, fun kk => ?_, fun kk => ⟨?_, rfl⟩⟩))))
          · refine me_call (.inl rfl) (fun z => nomatch z) (ma_cons (me_dget (me_var (e := .dat (.dict ps)) (me_var (e := .dat p.1) ⟨ps, k, p.2, rfl, congrArg Dv.dat ek, lookK_mem nd keys (ek ▸ hp), ma_nil ⟨rfl, p.2, rfl, s2, ?_, rfl⟩⟩))))
            rw [fe p hp, kk]
            rfl
          · rw [fe p hp, kk]
            rfl
        · have e : (ps.map fun p => f p.1) = (ps.map fun p => isNameD p.1 && isTableD p.2).map .bool := by
            rw [List.map_map]
            exact List.map_congr_left fun p hp => fe p hp
          rw [show Dv.fz (.own (ps.map fun p => f p.1)) = .dat (.list ((ps.map fun p => isNameD p.1 && isTableD p.2).map .bool)) from by rw [e] <;> rfl]
          refine cd_all ?_
          have : isPlanD (.dict ps) = (ps.map fun p => isNameD p.1 && isTableD p.2).all id := by
            rw [isPlanD_eq, decide_eq_true (show 1 ≤ ps.length by omega), decide_eq_true (show ps.length ≤ 4 by omega), List.all_map]
            rfl
          exact this ▸ hR
    · have h1 : ¬ (1 : Int) ≤ (ps.length : Int) := of_decide_eq_false k1
      exact mz_ret (me_bl (no (fun z => h1 (by omega)) ▸ hR))
  · have : isPlanD d = false := by
      cases d with
      | dict x => exact absurd k (show ¬ (!decide ("dict" = "dict")) = true by decide)
      | _ => rfl
    exact mz_ret (me_bl (this ▸ hR))
end
end K01
set_option Elab.async false
set_option linter.all false
set_option maxRecDepth 100000
set_option maxHeartbeats 4000000
namespace K01
open PySem PySem.Spec PyProof.Rows L2 Gd Evl Dl
def odd1 : List PyData := [(.str ""), (.str "abcdefghi"), (.str "A"), (.str "aB"), (.str "a1"), (.str "7"), (.str "and"), (.str "or"), (.str "not"), (.str "has"), (.str "yes"), (.str "flag"), (.str "a b"), (.str "a_"), (.str "a\n"), .none]
def odd2 : List PyData := [(.int 1), (.bool true), (.tuple [(.str "a")]), (.tuple [(.str "id"), (.str "k")]), (.tuple []), (.int (10 ^ 39)), (.str "flags"), (.str "hash"), (.str "android"), (.str "abcdefgh"), (.str "y")]
def odd3 : List PyData := [(.list []), (.dict []), (.list [(.str "a")])]
def oddD : List PyData := odd1 ++ odd2 ++ odd3
def spOdd : DSpec := fun es b R _ => ∃ b0 : Nat, es = [.pen] ∧ b = b0 + 1 ∧ ∀ d ∈ oddD, R (.dat d) b0
section
variable {P : Program} {w : World} {K : PySem.W.Frag} {mg : Str → Option Value} {base : Heap} {f fN fD : Addr} {fd fdN fdD : FuncData}
theorem scOdd : FnScope ["pen", "odd"] ["pen"] (defScope sOdd) := ⟨rfl, rfl, rfl, by decide +kernel, rfl, by decide +kernel, by decide +kernel⟩
theorem ok_odd (T : DrT mg fN fD) (FN : FnP K "_law_next" sNext fN fdN) (FD : FnP K "_law_draw" sDraw fD fdD) (hlen : mg "len" = none) (F : FnP K "_law_odd" sOdd f fd) : FnOk P w K mg base CX0 3 f fd ["pen"] (spD K 1 false [] spOdd) := by
  have GD : FnOk P w K mg base CX0 2 fD fdD ["pen", "under"] spDraw := ok_draw T.pen FN FD
  have bD : Binds K fdD ["pen", "under"] [] := FD.bindsN fun _ _ _ _ _ _ us hl => match us, hl with | [_, _], _ => rfl
  refine F.ok scOdd (fun vs H Q E h => spD_len h) (fun cdv A outer s H vs Q E hr h => ⟨_, PSs.nox (pss_cons (ps_set (i := 1) scOdd.nd rfl (Or.inl rfl) (pe_lst (pa_cons pe_str (pa_cons pe_str (pa_cons pe_str (pa_cons pe_str (pa_cons pe_str (pa_cons pe_str (pa_cons pe_str (pa_cons pe_str (pa_cons pe_str (pa_cons pe_str (pa_cons pe_str (pa_cons pe_str (pa_cons pe_str (pa_cons pe_str (pa_cons pe_str (pa_cons pe_non pa_nil))))))))))))))))))
    (pss_cons (ps_set (i := 1) scOdd.nd rfl (Or.inl rfl) (pe_op op_cat (pv 1) (pe_lst (pa_cons pe_int (pa_cons pe_bl (pa_cons (pe_tup (pa_cons pe_str pa_nil)) (pa_cons (pe_tup (pa_cons pe_str (pa_cons pe_str pa_nil))) (pa_cons (pe_tup pa_nil) (pa_cons (pe_op op_pow pe_int pe_int) (pa_cons pe_str (pa_cons pe_str (pa_cons pe_str (pa_cons pe_str (pa_cons pe_str pa_nil))))))))))))))
    (pss_cons (ps_set (i := 1) scOdd.nd rfl (Or.inl rfl) (pe_op op_cat (pv 1) (pe_lst (pa_cons (pe_lst pa_nil) (pa_cons pe_dnewK (pa_cons (pe_lst (pa_cons pe_str pa_nil)) pa_nil))))))
    (pss_one (ps_ret (pe_ix ix_list (pv 1) (pe_call GD hr rfl T.gD FD.kp bD .nil pass0 (pa_cons (pv 0) (pa_cons (pe_callB call_len_seq (by rfl) hlen PySem.boot_len (pa_cons (pv 1) pa_nil)) pa_nil))) (fun _ _ => rfl))))))), ?_⟩)
  refine spD_enter h (by decide) fun B b es R he hT hu hX hBX ⟨b0, e, hb, hR⟩ => ?_
  subst e hb
  refine mz_seq (mz_setF (me_lst ?_))
  refine ma_cons (me_str ?_)
  refine ma_cons (me_str ?_)
  refine ma_cons (me_str ?_)
  refine ma_cons (me_str ?_)
  refine ma_cons (me_str ?_)
  refine ma_cons (me_str ?_)
  refine ma_cons (me_str ?_)
  refine ma_cons (me_str ?_)
  refine ma_cons (me_str ?_)
  refine ma_cons (me_str ?_)
  refine ma_cons (me_str ?_)
  refine ma_cons (me_str ?_)
  refine ma_cons (me_str ?_)
  refine ma_cons (me_str ?_)
  refine ma_cons (me_str ?_)
  refine ma_cons (me_non ?_)
  refine ma_nil ⟨odd1, rfl, by show 16 ≤ 100000; decide, ?_⟩
  refine mz_seq (mz_setF (me_op (me_var (e := .dat (.list odd1)) (me_lst ?_))))
  refine ma_cons (me_int ?_)
  refine ma_cons (me_bl ?_)
  refine ma_cons (me_tup ?_)
  refine ma_cons (me_str ?_)
  refine ma_nil ⟨[(.str "a")], rfl, by show 1 ≤ 100000; decide, ?_⟩
  refine ma_cons (me_tup ?_)
  refine ma_cons (me_str ?_)
  refine ma_cons (me_str ?_)
  refine ma_nil ⟨[(.str "id"), (.str "k")], rfl, by show 2 ≤ 100000; decide, ?_⟩
  refine ma_cons (me_tup ?_)
  refine ma_nil ⟨[], rfl, by show 0 ≤ 100000; decide, ?_⟩
  refine ma_cons (me_op (me_int (me_int ?_)))
  refine opd_I (d := .int (10 ^ 39)) ?_ (.int _) ?_
  · exact ⟨by decide, by decide, by decide⟩
  refine ma_cons (me_str ?_)
  refine ma_cons (me_str ?_)
  refine ma_cons (me_str ?_)
  refine ma_cons (me_str ?_)
  refine ma_cons (me_str ?_)
  refine ma_nil ⟨odd2, rfl, by show 11 ≤ 100000; decide, ?_⟩
  refine opd_cat (by show 16 + 11 ≤ 100000; decide) ?_
  refine mz_seq (mz_setF (me_op (me_var (e := .dat (.list (odd1 ++ odd2))) (me_lst ?_))))
  refine ma_cons (me_lst ?_)
  refine ma_nil ⟨[], rfl, by show 0 ≤ 100000; decide, ?_⟩
  refine ma_cons (me_dnewK ?_)
  refine ma_cons (me_lst ?_)
  refine ma_cons (me_str ?_)
  refine ma_nil ⟨[(.str "a")], rfl, by show 1 ≤ 100000; decide, ?_⟩
  refine ma_nil ⟨odd3, rfl, by show 3 ≤ 100000; decide, ?_⟩
  refine opd_cat (by show 27 + 3 ≤ 100000; decide) ?_
  refine mz_ret (me_op (me_var (e := .dat (.list oddD)) ?_))
  refine me_callV (ma_cons (me_var (e := .pen) (ma_cons (me_cb (ma_cons (me_var (e := .dat (.list oddD)) (ma_nil ?_)))))))
  refine cd_lenL (ma_nil ?_)
  refine cd_draw (b := b0) (by decide) (by decide) fun g g0 g1 => ?_
  obtain ⟨j, hj⟩ : ∃ j : Nat, g = (j : Int) := ⟨g.toNat, by omega⟩
  subst hj
  have hl : j < oddD.length := by
    have : ((j : Nat) : Int) < ((oddD.length : Nat) : Int) := g1
    omega
  exact opd_ixL (atI_at rfl (List.getElem?_eq_getElem hl)) (hR _ (List.getElem_mem hl))
end
end K01
set_option Elab.async false
set_option linter.all false
set_option maxRecDepth 100000
set_option maxHeartbeats 4000000
/-! len(sorted(set(xs))), xs a list of texts -/
namespace Gd
open PySem PySem.Spec PyProof.Rows L2
section
variable {P : Program} {w : World} {A : Around} {E : Value → Shared → Prop} {s : Shared} {a : Addr} {n : Nat} {S : Str → Bool}
/-- a set of texts that can be walked -/
def TxS (P : Program) (w : World) (h : Heap) (a : Addr) (S : Str → Bool) (n : Nat) : Prop :=
  ∃ ob rs ep tb, h.get? a = some ob ∧ ob.ExactSet ∧ ob.data = .set rs ep tb ∧ ElemsOf (strKind P w) rs.toList ∧ (∀ k, S k = true ↔ ∃ e ∈ rs.toList, (strKind P w).is k e.2 = true) ∧
    rs.size < scanBound ∧ tb.fits rs.size = true ∧ rs.size = n ∧ Ris tb.place.toList ∧ (w.params.followText "set-order" = true ∨ tb.led = true)
theorem TxS.moved {h h' : Heap} (q : TxS P w h a S n) (k : ∀ o, h.get? a = some o → h'.get? a = some o) : TxS P w h' a S n := by
  obtain ⟨ob, rs, ep, tb, go, r⟩ := q
  exact ⟨ob, rs, ep, tb, k ob go, r⟩
theorem TxS.like {h : Heap} {S' : Str → Bool} {m : Nat} (q : TxS P w h a S n) (e : ∀ y, S y = S' y) (em : n = m) : TxS P w h a S' m := by
  obtain ⟨ob, rs, ep, tb, go, gx, gd, ge, gm, gb, gf, gn, gr, gl⟩ := q
  exact ⟨ob, rs, ep, tb, go, gx, gd, ge, fun k => by rw [← e k]; exact gm k, gb, gf, by rw [gn, em], gr, gl⟩
theorem txs_tail {g : Bool → Sem Unit} (qg : ∀ (c : Bool) (u : Shared) (Z : Unit → Shared → Prop), Z () u → wpAny (model P w) A (g c) Z E u)
    {ob : Obj} {rs rs1 : Array (Int × Value)} {ep : Nat} {tb tb1 : SetTable} (go : s.heap.get? a = some ob) (gx : ob.ExactSet) (gd : ob.data = .set rs ep tb)
    (ge : ElemsOf (strKind P w) rs1.toList) (gm : ∀ k, S k = true ↔ ∃ e ∈ rs1.toList, (strKind P w).is k e.2 = true) (gb : rs1.size < scanBound) (gf : tb1.fits rs1.size = true) (gr : Ris tb1.place.toList)
    (gl : w.params.followText "set-order" = true ∨ tb1.led = true) {was : Bool} {Z : Option Bool → Shared → Prop} (k : ∀ h', Heap.SameBut a s.heap h' → TxS P w h' a S rs1.size → Z (some true) { s with heap := h' }) :
    wpAny (model P w) A (do
        storeSet a rs1 tb1
        if (!was && tb1.tooFull) = true then do
            g (relayAll tb1 rs1 (SetTable.grown rs1.size)).2.2
            storeSet a (relayAll tb1 rs1 (SetTable.grown rs1.size)).1 (relayAll tb1 rs1 (SetTable.grown rs1.size)).2.1
            pure (some true)
          else pure (some true)) Z E s := by
  have st1 := store_at (es' := rs1) (t' := tb1) go gd
  have same1 := Heap.SameBut.update s.heap a (Obj.putSet rs1 tb1)
  refine wpAny_bind (wpAny_storeSet_of go gd ?_ (fits_of_scanBound gb))
  split
  · have a1 := relayAll_perm tb1 rs1 (SetTable.grown rs1.size)
    have a2 := relayAll_fits tb1 rs1 (SetTable.grown rs1.size)
    have a3 := relayAll_ris tb1 rs1 (SetTable.grown rs1.size)
    have a4 := relayAll_led tb1 rs1 (SetTable.grown rs1.size)
    generalize relayAll tb1 rs1 (SetTable.grown rs1.size) = W at a1 a2 a3 a4 ⊢
    obtain ⟨rs2, tb2, gv⟩ := W
    dsimp only at a1 a2 a3 a4 ⊢
    have z2 : rs2.size = rs1.size := by rw [← Array.length_toList, a1.length_eq, Array.length_toList]
    have b2 : rs2.size < scanBound := z2 ▸ gb
    refine wpAny_bind (qg _ _ _ (wpAny_bind (wpAny_storeSet_of st1 rfl ?_ (fits_of_scanBound b2))))
    have st2 := store_at (es' := rs2) (t' := tb2) st1 rfl
    refine wpAny_pure (k _ (same1.trans (Heap.SameBut.update _ a _)) ⟨_, rs2, _, tb2, st2, gx, rfl, ge.perm a1, fun y => (gm y).trans ⟨fun ⟨e, he, q⟩ => ⟨e, a1.mem_iff.mpr he, q⟩, fun ⟨e, he, q⟩ => ⟨e, a1.mem_iff.mp he, q⟩⟩, b2, a2, z2, a3, gl.imp id fun z => by rw [a4]; exact z⟩)
  · exact wpAny_pure (k _ same1 ⟨_, rs1, _, tb1, st1, gx, rfl, ge, gm, gb, gf, rfl, gr, gl⟩)
theorem txs_add {y : Str} {tk : Tok} {Q : Bool → Shared → Prop} (R : TxS P w s.heap a S n) (room : n + 1 < scanBound)
    (k : ∀ h', Heap.SameBut a s.heap h' → TxS P w h' a (fun j => S j || decide (j = y)) (if S y = true then n else n + 1) → Q (!S y) { s with heap := h' }) :
    wpAny (model P w) A (setAddHashed a (.str y tk) ((strKind P w).hash y)) Q E s := by
  obtain ⟨ob, rs, ep, tb, go, gx, gd, ge, gm, gb, gf, gn, gr, gl⟩ := R
  have ky : (strKind P w).is y (.str y tk) = true := strKind_is _ _ _ _
  have sc : (Value.str y tk).scannable = true := rfl
  unfold setAddHashed setAddHashedIn
  refine wpAny_holding (wpAny_bind (wpAny_setState_of go gd gf ?_))
  dsimp only
  rw [byScan_of sc gb ge]
  simp only [↓reduceIte]
  unfold setAddByScan
  refine wpAny_bind (wpAny_bind (wpAny_rule (wpAny_bind (wpAny_setScan_of ky go gd gf ge ?_))))
  cases fi : List.findIdx? (fun e => (strKind P w).is y e.2) rs.toList with
  | some j =>
    dsimp only
    obtain ⟨lj, pj, _⟩ := List.findIdx?_eq_some_iff_getElem.mp fi
    have Sy : S y = true := (gm y).mpr ⟨rs.toList[j], List.getElem_mem lj, pj⟩
    have q := k s.heap (Heap.SameBut.refl a s.heap) ⟨ob, rs, ep, tb, go, gx, gd, ge, fun i => by
      rw [← gm i, Bool.or_eq_true, decide_eq_true_eq]
      exact ⟨fun z => z.elim id (fun e => e ▸ Sy), .inl⟩, gb, gf, by rw [if_pos Sy]; exact gn, gr, gl⟩
    rw [Sy] at q
    exact wpAny_pure (wpAny_pure q)
  | none =>
    dsimp only
    have Sy : S y = false := by
      cases q : S y with
      | false => rfl
      | true =>
        obtain ⟨e, he, hp⟩ := (gm y).mp q
        have c := List.findIdx?_eq_none_iff.mp fi e he
        rw [hp] at c
        cases c
    have quiet : ∀ (c : Bool) {u : Shared} {Z : Unit → Shared → Prop}, Z () u → wpAny (model P w) A (match c with | true => rule "set.scan.the-table-gave-way" | false => pure ()) Z E u :=
      fun c u Z q => by cases c <;> first | exact wpAny_pure q | exact wpAny_rule q
    have b1 := layNew_perm tb rs ((strKind P w).hash y) (.str y tk)
    have b2 := layNew_fits tb rs ((strKind P w).hash y) (.str y tk)
    have b3 := layNew_ris tb rs ((strKind P w).hash y) (.str y tk) gr
    have b4 := layNew_led tb rs ((strKind P w).hash y) (.str y tk)
    generalize layNew tb rs ((strKind P w).hash y) (.str y tk) = W at b1 b2 b3 b4 ⊢
    obtain ⟨rs1, tb1, was, gv⟩ := W
    dsimp only at b1 b2 b3 b4 ⊢
    rw [Array.toList_push] at b1
    have e1 : ElemsOf (strKind P w) rs1.toList := (ge.push ky sc).perm b1
    have m1 : ∀ i, (S i || decide (i = y)) = true ↔ ∃ e ∈ rs1.toList, (strKind P w).is i e.2 = true := mem_push_iff ky gm b1
    have z1 : rs1.size = n + 1 := by rw [← Array.length_toList, b1.length_eq, List.length_append, Array.length_toList, gn] <;> rfl
    have lt1 : rs1.size < scanBound := by rw [z1]; exact room
    have led1 : w.params.followText "set-order" = true ∨ tb1.led = true := gl.imp id fun z => by rw [b4]; exact z
    have fin : ∀ h', Heap.SameBut a s.heap h' → TxS P w h' a (fun j => S j || decide (j = y)) rs1.size → Q true { s with heap := h' } := fun h' sb r => by
      have q := k h' sb
      rw [Sy] at q
      rw [z1] at r
      exact q r
    refine wpAny_bind (quiet _ ?_)
    split
    · refine wpAny_bind ?_
      rw [hashByValue_scannable 8 sc]
      refine wpAny_pure ?_
      refine txs_tail ?_ go gx gd e1 m1 lt1 ?_ ?_ ?_ ?_
      · intro c u Z q; cases c <;> first | exact wpAny_pure q | exact wpAny_rule q
      · first | (split <;> first | exact b2 | exact SetTable.fits_plain_off b2) | exact b2
      · first | (split <;> exact b3) | exact b3
      · first | (split <;> exact led1) | exact led1
      · intro h' sb r; dsimp only; exact wpAny_pure (fin h' sb r)
    · refine wpAny_bind (wpAny_pure ?_)
      simp only [↓reduceIte]
      refine txs_tail ?_ go gx gd e1 m1 lt1 b2 b3 led1 ?_
      · intro c u Z q; cases c <;> first | exact wpAny_pure q | exact wpAny_rule q
      · intro h' sb r; dsimp only; exact wpAny_pure (fin h' sb r)
variable {I : Addr} {fp wr : List Addr} {G : Array GenState → Array GenState → Prop} {Pv : Nat → Value → Prop} {St : Nat → Shared → Prop} {R : Result → Shared → Prop} {S : Addr}
theorem txs_fresh {h : Heap} {led : Bool} (e : led = (!w.params.followText "set-order")) (g : h.get? a = some (setBare led)) : TxS P w h a (fun _ => false) 0 :=
  ⟨_, #[], 0, _, g, ⟨rfl, rfl, rfl⟩, rfl, (fun e he => by simp at he), (fun k => by simp), (by decide), rfl, rfl, List.Pairwise.nil, by
    subst e
    cases w.params.followText "set-order"
    · exact .inr rfl
    · exact .inl rfl⟩
theorem code_new_led {u : Value} {Q₁ : Value → Shared → Prop} (k : Q₁ (.ref s.heap.objs.size) { s with heap := s.heap.push (setBare (!w.params.followText "set-order")) }) :
    codeAny (model P w) A (.call (.builtin "set.__new__") ⟨[.type "set", u], []⟩) (wants Q₁ E) s := by
  refine codeAny_of_tree ?_
  show wpAny _ A.in1 (checkBuiltinCall "set.__new__" ⟨[.type "set", u], []⟩ >>= fun _ => again (.builtin "set.__new__" ⟨[.type "set", u], []⟩)) _ _ s
  refine wpAny_bind (wpAny_of_eq (PySem.F.newCall_set_1 u) (wpAny_pure ⟨plainId_quiet PySem.F.plain_set_new _, codeAny_builtin PySem.F.entry_set_new ?_⟩))
  rw [Around.under_plainId PySem.F.plain_set_new _]
  unfold Builtin.«set.__new__» Builtin.Frozenset.newClass
  have self := sub_set_self
  obtain ⟨sh, sg, sdr, stk, sos⟩ := s
  dsimp only
  wp_walk
  refine wpAny_askSetting (wpAny_pure ?_)
  dsimp only
  simp only [newObj]
  exact wpAny_bind (wpAny_alloc (wpAny_pure (wpAny_pure k)))
theorem fillS (W : WalksS P w A.in1 I fp wr G n Pv St) (hS : S ∉ fp) {xs : List Str} (val : ∀ i v, Pv i v → ∃ t, v = .str (xs.getD i Str.empty) t) (hb : n + 1 < scanBound) :
    ∀ (m i : Nat) (s : Shared), i + m = n → St i s → TxS P w s.heap S (fun k => (met xs i).contains k) (met xs i).length → (∀ s', Moved (S :: wr) G s s' → TxS P w s'.heap S (fun k => (met xs n).contains k) (met xs n).length → R (.ok (.ret .none)) s') →
      codeAny (model P w) A (.builtin "set.update.loop" ⟨[.ref S, .ref I], []⟩) R s
  | 0, i, s, e, st, at_, k => by
    obtain rfl : i = n := e
    refine codeAny_builtin PyProof.Rows.F.entry_set_update_loop ?_
    rw [Around.under_plainId PyProof.Rows.F.plain_set_update_loop _]
    refine wpAny_bind (m := pyNext (.ref I)) (W.done s _ _ st fun s' mv => ?_)
    exact wpAny_pure (k s' (mv.mono fun b hb => List.mem_cons_of_mem _ hb) (at_.moved fun o e => mv.heap S o (fun z => hS (W.sub _ z)) e))
  | m + 1, i, s, e, st, at_, k => by
    refine codeAny_builtin PyProof.Rows.F.entry_set_update_loop ?_
    rw [Around.under_plainId PyProof.Rows.F.plain_set_update_loop _]
    refine wpAny_bind (m := pyNext (.ref I)) (W.item i s _ _ (by omega) st fun v s' hv st' mv => ?_)
    obtain ⟨t, ev⟩ := val i v hv
    subst ev
    have at1 : TxS P w s'.heap S (fun k => (met xs i).contains k) (met xs i).length := at_.moved fun o e => mv.heap S o (fun z => hS (W.sub _ z)) e
    refine wpAny_bind (m := holding [Value.str (xs.getD i Str.empty) t] (setAdd S (.str (xs.getD i Str.empty) t))) (wpAny_holding ?_)
    unfold setAdd
    refine wpAny_holding (wpAny_bind ((PySem.strKind P w).pyHash (k := xs.getD i Str.empty) (strKind_is _ _ _ _) ?_))
    have room : (met xs i).length + 1 < scanBound := Nat.lt_of_le_of_lt (Nat.add_le_add_right (met_len xs i) 1) (by omega)
    refine txs_add (s := { s' with toks := s'.toks + 1 }) at1 room fun h' sb at2 => ?_
    have at3 : TxS P w h' S (fun k => (met xs (i + 1)).contains k) (met xs (i + 1)).length := by
      refine at2.like (fun y => ?_) ?_
      · show ((met xs i).contains y || decide (y = xs.getD i Str.empty)) = (met xs (i + 1)).contains y
        rw [show met xs (i + 1) = if (met xs i).contains (xs.getD i Str.empty) then met xs i else met xs i ++ [xs.getD i Str.empty] from rfl]
        by_cases c : (met xs i).contains (xs.getD i Str.empty) = true
        · rw [if_pos c]
          by_cases q : y = xs.getD i Str.empty
          · rw [q, c] <;> rfl
          · rw [decide_eq_false q, Bool.or_false]
        · rw [if_neg c, List.contains_append]
          simp [List.contains_cons, Bool.beq_eq_decide_eq]
      · rw [show met xs (i + 1) = if (met xs i).contains (xs.getD i Str.empty) then met xs i else met xs i ++ [xs.getD i Str.empty] from rfl]
        split <;> simp
    refine wpAny_pure ⟨plainId_quiet PyProof.Rows.F.plain_set_update_loop _, fillS W hS val hb m (i + 1) _ (by omega) (W.frame _ s' _ _ st' (Nat.le_succ _) fun b hbf o eo => ?_) at3 fun s2 mv2 at4 => ?_⟩
    · exact (sb.2 b fun z => hS (z ▸ hbf)).trans eo
    · refine k s2 (Moved.trans W.gtrans ((mv.mono fun b hb => List.mem_cons_of_mem _ hb).then_heap (Nat.le_succ _) fun b o hn eo => ?_) mv2) at4
      exact (sb.2 b fun z => hn (z ▸ List.mem_cons_self)).trans eo
set_option maxHeartbeats 8000000 in
theorem call_setLS {l : Addr} {items : Array Value} {xs : List Str} {Q : Value → Shared → Prop} (hh : A.handled = none) (hl : s.heap.IsList l items) (hi : PyProof.Rows.StrsAre items.toList xs) (hb : items.size + 1 < scanBound)
    (h : ∀ (h' : Heap) (tk : Nat), TxS P w h' s.heap.objs.size (fun k => (met xs items.size).contains k) (met xs items.size).length → (∀ b o, b < s.heap.objs.size → s.heap.get? b = some o → h'.get? b = some o) → Q (.ref s.heap.objs.size) { s with heap := h', toks := tk }) :
    wpAny (model P w) A (call (.type "set") [.ref l]) Q E s := by
  obtain ⟨c, tl, mro⟩ := PySem.F.called_set.mro
  have g1 := PySem.F.called_set.made
  have g2 := PySem.F.called_set.sub
  have g3 := PySem.F.called_set.notType
  have g4 := PySem.F.called_set.canCreate
  have g5 := PySem.F.typeCall_set_1 (.ref l)
  refine wpAny_call (codeAny_of_tree ?_)
  show wpAny _ _ (callAny (.type "set") _) _ _ _
  refine wpAny_pure ⟨Code.quiet_builtin _ (by decide +kernel), codeAny_builtin PySem.F.entry_type_call ?_⟩
  rw [Around.under_plain (weight_type_call_type "set" [.ref l] []) rfl]
  repeat (any_goals (first | assumption | wp_step))
  refine codeAny_mono (code_new_led (E := E) (Q₁ := fun ob t => ∃ led : Bool, led = (!w.params.followText "set-order") ∧ ob = .ref s.heap.objs.size ∧ t = { s with heap := s.heap.push (setBare led) }) ⟨_, rfl, rfl, rfl⟩) fun r t hr => ?_
  match r, hr with
  | .error _, hr => exact hr
  | .ok .next, hr => exact hr.elim
  | .ok .brk, hr => exact hr.elim
  | .ok .cont, hr => exact hr.elim
  | .ok (.ret ob), ⟨led, eled, e1, e2⟩ =>
    subst e1 e2
    have atS : (s.heap.push (setBare led)).get? s.heap.objs.size = some (setBare led) := Heap.get?_push_size _ rfl
    have tyS : Shared.TypeIs { s with heap := s.heap.push (setBare led) } (.ref s.heap.objs.size) "set" := ⟨_, atS, rfl⟩
    have g6 := PySem.F.called_set.init.lookup
    have g7 := PySem.F.called_set.init.bind (.ref s.heap.objs.size)
    repeat (any_goals (first | assumption | wp_step))
    refine codeAny_mono (codeAny_call_builtin (R := wants (fun r t => r = .none ∧ ∃ h' tk, t = { s with heap := h', toks := tk } ∧ TxS P w h' s.heap.objs.size (fun k => (met xs items.size).contains k) (met xs items.size).length ∧ ∀ b o, b < s.heap.objs.size → s.heap.get? b = some o → h'.get? b = some o) E)
      PySem.F.called_set.init.plain PySem.F.entry_set_init (check_set_init_1 tyS ?_)) fun r2 t2 hr2 => ?_
    · obtain ⟨⟨k1, k2, k3, k4⟩, ho, hc, nl, hd⟩ := hl
      dsimp only at hc hd
      subst hc hd
      have ho' : (s.heap.push (setBare led)).get? l = some { cls := .type "list", dict := k2, data := .seq items nl, slots := k4 } := Heap.get?_push_of_some _ ho
      have q1 := PySem.F.sub_list_set
      have q2 := PySem.F.sub_list_frozenset
      have q3 : (Value.type "list" == Value.type "dict") = false := by decide
      have hl1 : (s.heap.push (setBare led)).IsList l items := ⟨_, ho', rfl, nl, rfl⟩
      unfold Builtin.«set.__init__» noKeywords Builtin.Frozenset.updateFrom
      generalize hPI : pyIter = PI
      wp_walk
      subst hPI
      refine wpAny_pyIter_list hl1 (wpAny_bind (wpAny_runValue ?_))
      have lS : l < s.heap.objs.size := Heap.lt_size ho
      have lI : l ≠ (s.heap.push (setBare led)).objs.size := by
        rw [Heap.size_push]
        exact Nat.ne_of_lt (Nat.lt_succ_of_lt lS)
      have nS : s.heap.objs.size ∉ [(s.heap.push (setBare led)).objs.size, l] := by
        rw [Heap.size_push]
        simp only [List.mem_cons, List.not_mem_nil, or_false, not_or]
        exact ⟨Nat.ne_of_lt (Nat.lt_succ_self _), Nat.ne_of_gt lS⟩
      refine fillS ((Walks.list (by simp [hh]) _ l lI items).toS) nS (xs := xs) (fun i v hv => ?_) hb items.size 0 _ (Nat.zero_add _) ⟨⟨_, Heap.get?_push_size _ rfl, rfl, rfl⟩, hl1.push _⟩ ?_ fun s' mv at' => ?_
      · exact strs_ix hi i v (by rw [Array.getElem?_toList]; exact hv)
      · exact (txs_fresh (P := P) (w := w) (a := s.heap.objs.size) eled (Heap.get?_push_of_some _ atS)).like (fun _ => rfl) rfl
      · obtain ⟨h', g', d', tk', os'⟩ := s'
        cases (show g' = s.gens from mv.gens)
        cases (show d' = s.drawn from mv.drawn)
        cases (show os' = s.os from mv.os)
        show wpAny _ _ _ _ _ _
        refine wpAny_pure ?_
        show wpAny _ _ (ret Value.none) _ _ _
        refine wpAny_pure ⟨rfl, h', tk', rfl, at', fun b o hb2 eo => mv.heap b o ?_ (Heap.get?_push_of_some _ (Heap.get?_push_of_some _ eo))⟩
        simp only [List.mem_cons, List.not_mem_nil, or_false, not_or]
        exact ⟨Nat.ne_of_lt hb2, by rw [Heap.size_push]; exact Nat.ne_of_lt (Nat.lt_succ_of_lt hb2)⟩
    · match r2, hr2 with
      | .error _, hr2 => exact hr2
      | .ok .next, hr2 => exact hr2.elim
      | .ok .brk, hr2 => exact hr2.elim
      | .ok .cont, hr2 => exact hr2.elim
      | .ok (.ret _), ⟨e3, h', tk, e4, at', keep⟩ =>
        subst e3 e4
        repeat (any_goals (first | assumption | wp_step))
        exact h _ _ at' keep
end
end Gd
set_option Elab.async false
set_option linter.all false
set_option maxRecDepth 100000
set_option maxHeartbeats 4000000
namespace Gd
open PySem PySem.Spec PyProof.Rows L2
section
variable {P : Program} {w : World} {A : Around} {E : Value → Shared → Prop} {s : Shared} {a : Addr} {n : Nat} {S : Str → Bool}
theorem texts_of : ∀ vs : List Value, (∀ v ∈ vs, ∃ y tk, v = .str y tk) → ∃ ts : List Str, PySem.W.EachIs (fun v (y : Str) => ∃ tk, v = .str y tk) vs ts
  | [], _ => ⟨[], .nil⟩
  | v :: vs, h => by
    obtain ⟨y, e⟩ := h v List.mem_cons_self
    obtain ⟨ts, q⟩ := texts_of vs fun u hu => h u (List.mem_cons_of_mem _ hu)
    exact ⟨y :: ts, .cons e q⟩
theorem alike_txt (ts : List Str) : PySem.W.AllAlike (ts.map PyData.str) := PySem.W.AllAlike.of fun b b' => by simp [PySem.W.alike]
/-- sorted(a set of texts): a list of as many -/
theorem sorted_txs {Q : Value → Shared → Prop} (R : TxS P w s.heap a S n) (hh : A.handled = none) (hu : A.units + 64 < cLine) (hn : n ≤ 1000)
    (k : ∀ s' p (its : Array Value), (∀ b o, s.heap.get? b = some o → s'.heap.get? b = some o) → s'.gens = s.gens → s'.os = s.os → s.heap.objs.size ≤ p → (∃ c, s'.heap.get? p = some (seqObj "list" its c)) → its.size = n → Q (.ref p) s') :
    wpAny (model P w) A (call (.builtin "sorted") [.ref a]) Q E s := by
  obtain ⟨ob, rs, ep, tb, go, gx, gd, ge, gm, gb, gf, gn, gr, gl⟩ := R
  refine Calls.call_function_entry kind_sorted plain_sorted entry_sorted (args_sorted1 _) ?_
  unfold Builtin.«sorted»
  refine wpAny_bind (m := checkCount "sorted" 1 1 _) (wpAny_pure (wpAny_bind (collect_set (A := A.in1) hh ⟨ob, go, gx.1, gd⟩ gf gb gr gl fun s1 vs k1 z1 g1 o1 pm => ?_)))
  have vl : vs.length = n := by rw [pm.length_eq, List.length_map, Array.length_toList]; exact gn
  obtain ⟨ts, ets⟩ := texts_of vs fun v hv => by
    obtain ⟨e, he, q⟩ := List.mem_map.mp (pm.mem_iff.mp hv)
    obtain ⟨⟨y, q1, _⟩, _⟩ := ge e he
    obtain ⟨tk, q2⟩ := Value.isStrOf_shape q1
    exact ⟨y, tk, q ▸ q2⟩
  refine wpAny_bind (wpAny_newList ?_ (by rw [vl, sizeLine_eq]; omega))
  have atL : (s1.heap.push (seqObj "list" vs.toArray 0)).get? s1.heap.objs.size = some (seqObj "list" vs.toArray 0) := Heap.get?_push_size _ rfl
  have er : PySem.W.EachIs (fun v (y : Str) => ∃ as, Reads (s1.heap.push (seqObj "list" vs.toArray 0)) v (PyData.str y) as ∧ s1.heap.objs.size ∉ as) vs ts := ets.mono fun v y ⟨tk, e⟩ => ⟨[], e ▸ Reads.str y tk, by simp⟩
  have tl : ts.length = n := by rw [← ets.length]; exact vl
  refine wpAny_bind (wpAny_holding (PySem.W.list_sort_data (enc := PyData.str) (vs := vs) (bs := ts) atL ets er (alike_txt ts) (PySem.W.Sortable.others fun b => ⟨(fun z => nomatch z), fun _ z => nomatch z⟩) (by rw [tl, sizeLine_eq]; omega) (fun y _ => ?_) fun out lo _ => ?_))
  · have d0 : (PyData.str y).depth = 0 := by simp [PyData.depth]
    rw [d0]
    show A.units + 1 + 1 + 0 < cLine
    omega
  · obtain ⟨c, hc⟩ := sortedHeap_at (vs := vs) (out := out.toArray) atL
    refine wpAny_pure ⟨_, rfl, k _ s1.heap.objs.size out.toArray (fun b u e => ?_) g1 o1 z1 ⟨c, hc⟩ (by rw [List.size_toArray, lo, tl])⟩
    have q := k1 b u e
    have lt := Heap.lt_size q
    show (sortedHeap (s1.heap.push (seqObj "list" vs.toArray 0)) s1.heap.objs.size vs out.toArray).get? b = some u
    rw [sortedHeap_old (Nat.ne_of_lt lt) (by rw [Heap.size_push]; exact Nat.lt_succ_of_lt lt)]
    exact Heap.get?_push_of_some _ q
end
/-- len(sorted(set(xs))) -/
theorem pe_lenSorted {X : Cx} {a : Expr} {ta : TE} {p p2 p3 q q2 pos : Pos} (hc : X.calm = true) (hu : X.A.units + 70 < cLine) (hg : Gl X "len") (hm : X.mg "len" = none) (hg1 : Gl X "sorted") (hm1 : X.mg "sorted" = none) (hg2 : Gl X "set") (hm2 : X.mg "set" = none) (ha : PE X a ta)
    (na : starEach [a] X.env = (false, eval a X.env) :: starEach [] X.env := by rfl) : PE X (.Call (.Name "len" p) [.Call (.Name "sorted" p3) [.Call (.Name "set" p2) [a] [] q] [] q2] [] pos) (tLenSet X.K ta) := by
  constructor
  intro pins s σ H Q I h
  refine Call_ (ld_blt I hg hm boot_len (PyProof.Rows.callWith_builtin1 (PyProof.Rows.args_cons ?_ rfl) rfl rfl))
  refine Call_ (ld_blt I hg1 hm1 PyProof.Rows.boot_sorted (PyProof.Rows.callWith_builtin1 (PyProof.Rows.args_cons ?_ rfl) rfl rfl))
  refine Call_ (ld_blt I hg2 hm2 boot_set (PyProof.Rows.callWith_type1 (PyProof.Rows.args_cons (thn (ha.run pins s σ H _ I h) fun v s1 ⟨x, H1, I1, r1, q1⟩ => PyProof.Rows.args_nil ?_) na) na rfl))
  obtain ⟨l, xs, e, hq, hz, q2⟩ := q1
  subst e
  cases r1
  obtain ⟨its, r, pl, _⟩ := I1.list hq
  have hl : its.toArray.size = xs.length := by rw [List.size_toArray, ← r.length, List.length_map]
  have hb : its.toArray.size + 1 < scanBound := by
    rw [hl]
    exact Nat.lt_of_le_of_lt (Nat.add_le_add_right hz 1) (by decide)
  refine call_setLS (I1.ok.hd hc) pl.isList (by simpa using strs_vals r) hb fun h' tk hS keep => PyProof.Rows.args_nil ?_
  rw [hl] at hS
  have keep' : ∀ b o, s1.heap.get? b = some o → h'.get? b = some o := fun b o e => keep b o (Heap.lt_size e) e
  have hle : many xs ≤ xs.length := met_len xs xs.length
  refine sorted_txs (s := { s1 with heap := h', toks := tk }) hS (I1.ok.hd hc) (by omega) (by show many xs ≤ 1000; omega) fun s2 p its2 k2 g2 o2 _ ⟨c, hp⟩ hsz => PyProof.Rows.args_nil ?_
  have k12 : ∀ b o, s1.heap.get? b = some o → s2.heap.get? b = some o := fun b o e => k2 b o (keep' b o e)
  have I2 : L2.Inv X pins σ H1 s2 := I1.call' (ch := []) o2 (Un.kept k12) (I1.hok.kept k12) (by rw [g2]; exact I1.bare) (fun _ z => nomatch z)
  have hs2 : its2.size = many xs := hsz
  refine PySem.Calls.call_len_list (items := its2) ⟨_, hp, rfl, c, rfl⟩ (by rw [hs2]; omega) ⟨.int (many xs : Nat), H1, I2.tok _, ⟨_, by rw [hs2]⟩, q2⟩
end Gd
set_option Elab.async false
set_option linter.all false
set_option maxRecDepth 100000
set_option maxHeartbeats 4000000
namespace Dl
open PySem PySem.Spec PyProof.Rows L2 Evl Gd LamX
/-- len(sorted(set(xs))), len(set(xs)) -/
theorem me_lenSet {K : PySem.W.Frag} {B : Base} {δ : Env} {b : Nat} {ta : TE} {R : Dv → Nat → Prop} (h : Me K B ta δ b fun x b1 => ∃ xs : List Str, x.fz = .dat (.list (xs.map .str)) ∧ xs.length ≤ 1000 ∧ R (.dat (.int (many xs : Nat))) b1) : Me K B (tLenSet K ta) δ b R := fun σ F H s Q k =>
  Me.run (Rest := fun x b1 => ∃ xs : List Str, x = .dat (.list (xs.map .str)) ∧ xs.length ≤ 1000 ∧ R (.dat (.int (many xs : Nat))) b1) h s fun v x b1 F1 H1 ⟨xs, e, hz, r⟩ s1 g1 d1 => by
    subst e
    cases (show Dq K F1 v (.list (xs.map .str)) from d1) with
    | @lst a vs _ h1 h2 =>
      have e : vs = xs.map V.str := (fl_all (mapM_strs xs) h2).1
      subst e
      exact ⟨a, xs, rfl, lk_l s1.lk (.inl h1), hz, k _ _ b1 F1 H1 r s1 g1 (.int _) (Nw.no rfl)⟩
end Dl
namespace K01
open PySem PySem.Spec PyProof.Rows L2 Gd Evl Dl
structure LtT (mg : Str → Option Value) : Prop extends LiT mg where
  tuple : mg "tuple" = none
  list : mg "list" = none
  sorted : mg "sorted" = none
  set : mg "set" = none
theorem notT {d : PyData} (h : ∀ cs fs, d ≠ .tuple [.tuple cs, .tuple fs]) : isTableD d = false := by
  cases e : isTableD d with
  | false => rfl
  | true =>
    obtain ⟨cs, fs, q⟩ := table_shape e
    exact absurd q (h cs fs)
theorem isTableD_eq (cs fs : List PyData) : isTableD (.tuple [.tuple cs, .tuple fs]) = (decide (1 ≤ cs.length) && decide (cs.length ≤ 3) && decide (fs.length ≤ 2) && (cs.all isColD && fs.all isNameD) && decide (cs.map colName ++ fs.map txt).Nodup) := rfl
theorem ty_no {d : PyData} {T : String} (k : (!decide (tyD d = T)) = true) : tyD d ≠ T := by simpa using k
theorem ty_ok {d : PyData} {T : String} (k : (!decide (tyD d = T)) = false) : tyD d = T := by simpa using k
theorem ty_tuple {d : PyData} (h : tyD d = "tuple") : ∃ x, d = .tuple x := by
  cases d with
  | tuple x => exact ⟨x, rfl⟩
  | none => exact absurd h (by decide)
  | bool _ => exact absurd h (by decide : ¬ "bool" = "tuple")
  | int _ => exact absurd h (by decide : ¬ "int" = "tuple")
  | list _ => exact absurd h (by decide : ¬ "list" = "tuple")
  | dict _ => exact absurd h (by decide : ¬ "dict" = "tuple")
  | str _ => exact absurd h (by decide : ¬ "str" = "tuple")
section
variable {P : Program} {w : World} {K : PySem.W.Frag} {mg : Str → Option Value} {base : Heap} {f fN : Addr} {fd fdN : FuncData}
abbrev NLT : List Str := ["thing", "columns", "flags", "column", "named", "one", "flag"]
theorem scLT : FnScope NLT ["thing"] (defScope sLIsTable) := ⟨rfl, rfl, rfl, by decide +kernel, rfl, by decide +kernel, by decide +kernel⟩
theorem ok_listable (T : LtT mg) (FN : FnP K "_law_is_name" sLIsName fN fdN) (gN : mg "_law_is_name" = some (.ref fN)) (F : FnP K "_law_is_table" sLIsTable f fd) : FnOk P w K mg base CX0 2 f fd ["thing"] (spD K 1 false [] (spIs isTableD)) := by
  have GN : FnOk P w K mg base CX0 1 fN fdN ["thing"] (spD K 1 false [] (spIs isNameD)) := ok_lisname T.toLiT FN
  have bN : Binds K fdN ["thing"] [] := FN.bindsN fun _ _ _ _ _ _ us hl => match us, hl with | [_], _ => rfl
  refine F.ok scLT (fun vs H Q E h => spD_len h) (fun cdv A outer s H vs Q E hr h => ⟨_, PSs.nox (pss_cons (ps_if (PW.pt (pw_or (pt_not (pt_val (pe_callB call_isi (by rfl) T.isi (by decide +kernel) (pa_cons (pv 0) (pa_cons (pe_bltn (v := .ty "tuple") (by rfl) T.tuple (by decide +kernel) rfl) pa_nil))))) (pw_or1 (pt_cmpR op_ne (pe_callB (r := rLenSeq K) (by exact call_len_seq) (by rfl) T.len PySem.boot_len (pa_cons (pv 0) pa_nil)) pe_int (nomark _))))) (pss_one (ps_ret pe_bl)) pss_nil)
    (pss_cons (ps_asg (pv 0) (pg_tup rfl (pgs_cons (pg_name (i := 1) scLT.nd rfl (Or.inl rfl)) (pgs_cons (pg_name (i := 2) scLT.nd rfl (Or.inl rfl)) pgs_nil))))
    (pss_cons (ps_if (PW.pt (pw_or (pt_not (pt_val (pe_callB call_isi (by rfl) T.isi (by decide +kernel) (pa_cons (pv 1) (pa_cons (pe_bltn (v := .ty "tuple") (by rfl) T.tuple (by decide +kernel) rfl) pa_nil))))) (pw_or1 (pt_not (pt_val (pe_callB call_isi (by rfl) T.isi (by decide +kernel) (pa_cons (pv 2) (pa_cons (pe_bltn (v := .ty "tuple") (by rfl) T.tuple (by decide +kernel) rfl) pa_nil)))))))) (pss_one (ps_ret pe_bl)) pss_nil)
    (pss_cons (ps_if (PW.pt (pw_or (pt_not (pt_chain op_le op_le pe_int (pe_callB (r := rLenSeq K) (by exact call_len_seq) (by rfl) T.len PySem.boot_len (pa_cons (pv 1) pa_nil)) pe_int)) (pw_or1 (pt_cmpR op_gt (pe_callB (r := rLenSeq K) (by exact call_len_seq) (by rfl) T.len PySem.boot_len (pa_cons (pv 2) pa_nil)) pe_int (nomark _))))) (pss_one (ps_ret pe_bl)) pss_nil)
    (pss_cons (ps_for PassesOwn.never rfl (pi_tup (pv 1)) (pg_name (i := 3) scLT.nd rfl (Or.inl rfl)) (pss_one (ps_if (PW.pt (pw_or (pt_not (pt_val (pe_callB call_isi (by rfl) T.isi (by decide +kernel) (pa_cons (pv 3) (pa_cons (pe_bltn (v := .ty "tuple") (by rfl) T.tuple (by decide +kernel) rfl) pa_nil))))) (pw_or (pt_cmpR op_ne (pe_callB (r := rLenSeq K) (by exact call_len_seq) (by rfl) T.len PySem.boot_len (pa_cons (pv 3) pa_nil)) pe_int (nomark _)) (pw_or1 (pt_not (pt_val (pe_callB (cr_all rfl) (by rfl) T.all (by decide +kernel) (pa_cons (pe_lc (own := [("one", 5)]) (g := gName 5) (tt := tYes) rfl scLT.nd (pi_tup (pv 3)) (blkOk_by (N := NLT) (sc := defScope sLIsTable) (by decide +kernel)) (fun _ _ _ _ _ => (pg_name (i := 5) scLT.nd rfl (Or.inl rfl))) (fun _ _ _ _ _ => pts_nil) (fun _ _ _ _ _ => pe_call GN (hr.mono (by decide)) (by rfl) gN FN.kp bN .nil pass0 (pa_cons (pv 5) pa_nil))) pa_nil)))))))) (pss_one (ps_ret pe_bl)) pss_nil)))
    (pss_cons (ps_if (pt_not (pt_val (pe_callB (cr_all rfl) (by rfl) T.all (by decide +kernel) (pa_cons (pe_lc (own := [("flag", 6)]) (g := gName 6) (tt := tYes) rfl scLT.nd (pi_tup (pv 2)) (blkOk_by (N := NLT) (sc := defScope sLIsTable) (by decide +kernel)) (fun _ _ _ _ _ => (pg_name (i := 6) scLT.nd rfl (Or.inl rfl))) (fun _ _ _ _ _ => pts_nil) (fun _ _ _ _ _ => pe_call GN (hr.mono (by decide)) (by rfl) gN FN.kp bN .nil pass0 (pa_cons (pv 6) pa_nil))) pa_nil)))) (pss_one (ps_ret pe_bl)) pss_nil)
    (pss_cons (ps_set (i := 4) scLT.nd rfl (Or.inl rfl) (pe_op op_cat (pe_lc (own := [("column", 3)]) (g := gName 3) (tt := tYes) rfl scLT.nd (pi_tup (pv 1)) (blkOk_by (N := NLT) (sc := defScope sLIsTable) (by decide +kernel)) (fun _ _ _ _ _ => (pg_name (i := 3) scLT.nd rfl (Or.inl rfl))) (fun _ _ _ _ _ => pts_nil) (fun _ _ _ _ _ => pe_ix (r := rIxT K) (by exact ix_tup) (pv 3) pe_int (fun _ _ => rfl))) (pe_callTy call_list_of (by rfl) T.list (by decide +kernel) (pa_cons (pv 2) pa_nil))))
    (pss_one (ps_ret (pe_cmpR op_eq (pe_lenSorted rfl (hu70_of hr) (by rfl) T.len (by rfl) T.sorted (by rfl) T.set (pv 4)) (pe_callB (r := rLenSeq K) (by exact call_len_seq) (by rfl) T.len PySem.boot_len (pa_cons (pv 4) pa_nil)) (nomark _))))))))))), ?_⟩)
  refine spD_enter h (by decide) fun B b es R he hT hu hX hBX ⟨d, e, hs, hR⟩ => ?_
  subst e
  have bad : isTableD d = false → R (.dat (.bool false)) b := fun z => z ▸ hR
  refine mz_seq (mz_if (mt_or (mt_not (mt_B (me_isi (me_var ⟨d, rfl, _, rfl, fun k => ?_, fun k => ⟨fun _ => ?_, fun z => nomatch z⟩⟩))))))
  case refine_2 => exact mz_ret (me_bl (bad (notT fun cs fs e => ty_no k (by rw [e] <;> rfl))))
  obtain ⟨ds, rfl⟩ := ty_tuple (ty_ok k)
  refine mt_test (me_op (me_cb (ma_cons (me_var (ma_nil ?_)))))
  refine cd_lenT (me_int ?_)
  refine opd_neI ⟨_, rfl, fun k2 => ?_, fun k2 => ?_⟩
  · have h2 : ¬ (ds.length : Int) = 2 := by
      have k2' : (!decide ((ds.length : Int) = 2)) = true := k2
      simpa using k2'
    exact mz_ret (me_bl (bad (notT fun cs fs e => h2 (by cases e; rfl))))
  have h2 : (ds.length : Int) = 2 := by
    have k2' : (!decide ((ds.length : Int) = 2)) = false := k2
    simpa using k2'
  obtain ⟨x, y, rfl⟩ : ∃ x y, ds = [x, y] := by
    match ds, h2 with
    | [x, y], _ => exact ⟨x, y, rfl⟩
  obtain ⟨sx, sy⟩ : small x = true ∧ small y = true := by
    have q : (decide (([x, y] : List PyData).length ≤ 1000) && (small x && (small y && true))) = true := hs
    simp only [Bool.and_eq_true, Bool.and_true] at q
    exact ⟨q.2.1, q.2.2⟩
  refine mz_next (mz_seq (mz_asg (me_var (mg_names (n := 2) (is := [1, 2]) rfl rfl ?_))))
  -- both tuples
  refine mz_seq (mz_if (mt_or (mt_not (mt_B (me_isi (me_var ⟨x, rfl, _, rfl, fun k => ?_, fun k => ⟨fun _ => ?_, fun z => nomatch z⟩⟩))))))
  case refine_2 => exact mz_ret (me_bl (bad (notT fun cs fs e => ty_no k (by cases e; rfl))))
  obtain ⟨cs, rfl⟩ := ty_tuple (ty_ok k)
  refine mt_not (mt_B (me_isi (me_var ⟨y, rfl, _, rfl, fun k => ?_, fun k => ?_⟩)))
  · exact mz_ret (me_bl (bad (notT fun cs fs e => ty_no k (by cases e; rfl))))
  obtain ⟨fs, rfl⟩ := ty_tuple (ty_ok k)
  obtain ⟨zc, sc0⟩ : cs.length ≤ 1000 ∧ smallAll cs = true := by simpa [small] using sx
  obtain ⟨zf, sf0⟩ : fs.length ≤ 1000 ∧ smallAll fs = true := by simpa [small] using sy
  refine mz_next (mz_seq (mz_if (mt_or (mt_not (mt_B (me_chain (me_int (me_cb (ma_cons (me_var (ma_nil ?_)))))))))))
  refine cd_lenT ?_
  have bad2 : (decide (1 ≤ cs.length) && decide (cs.length ≤ 3) && decide (fs.length ≤ 2)) = false → R (.dat (.bool false)) b := fun z => bad (by rw [isTableD_eq, z] <;> rfl)
  refine opd_I0 (d := .bool (decide ((1 : Int) ≤ (cs.length : Int)))) (.bl _) ⟨_, rfl, fun k1 => me_int ?_, fun k1 => ⟨_, rfl, fun z => (nomatch z), fun _ => ⟨fun _ => mz_ret (me_bl (bad2 ?_)), fun z => nomatch z⟩⟩⟩
  case refine_2 =>
    have h1 : ¬ (1 : Int) ≤ (cs.length : Int) := of_decide_eq_false k1
    rw [decide_eq_false (show ¬ 1 ≤ cs.length by omega)] <;> rfl
  have h1 : (1 : Int) ≤ (cs.length : Int) := of_decide_eq_true k1
  refine opd_I0 (d := .bool (decide ((cs.length : Int) ≤ 3))) (.bl _) ⟨_, rfl, fun k2 => ?_, fun k2 => ⟨fun _ => mz_ret (me_bl (bad2 ?_)), fun z => nomatch z⟩⟩
  case refine_2 =>
    have k2' : (!decide ((cs.length : Int) ≤ 3)) = true := k2
    have h2 : ¬ (cs.length : Int) ≤ 3 := by simpa using k2'
    rw [decide_eq_false (show ¬ cs.length ≤ 3 by omega)]
    simp
  have h3 : (cs.length : Int) ≤ 3 := by
    have k2' : (!decide ((cs.length : Int) ≤ 3)) = false := k2
    simpa using k2'
  refine mt_test (me_op (me_cb (ma_cons (me_var (ma_nil ?_)))))
  refine cd_lenT (me_int ?_)
  refine opd_I0 (d := .bool (decide ((2 : Int) < (fs.length : Int)))) (.bl _) ⟨_, rfl, fun k3 => mz_ret (me_bl (bad2 ?_)), fun k3 => ?_⟩
  case refine_1 =>
    have h4 : (2 : Int) < (fs.length : Int) := of_decide_eq_true k3
    rw [decide_eq_false (show ¬ fs.length ≤ 2 by omega)]
    simp
  have h4 : ¬ (2 : Int) < (fs.length : Int) := of_decide_eq_false k3
  have good : isTableD (.tuple [.tuple cs, .tuple fs]) = ((cs.all isColD && fs.all isNameD) && decide (cs.map colName ++ fs.map txt).Nodup) := by
    rw [isTableD_eq, decide_eq_true (show 1 ≤ cs.length by omega), decide_eq_true (show cs.length ≤ 3 by omega), decide_eq_true (show fs.length ≤ 2 by omega)]
    rfl
  -- columns
  refine mz_next (mz_seq (mz_for (mi_tup (me_var ⟨cs, rfl, fun i δ c => ∃ x3 x4 x5 x6, δ = [some (.dat (.tuple [.tuple cs, .tuple fs])), some (.dat (.tuple cs)), some (.dat (.tuple fs)), x3, x4, x5, x6] ∧ (cs.take i).all isColD = true ∧ c = b, ⟨none, none, none, none, rfl, rfl, rfl⟩, ?_, ?_⟩))))
  · rintro i col δ c hi ⟨x3, x4, x5, x6, rfl, hall, rfl⟩
    have cm : col ∈ cs := List.mem_of_getElem? hi
    have badc : isColD col = false → isTableD (.tuple [.tuple cs, .tuple fs]) = false := fun z => by
      rw [good]
      have : cs.all isColD = false := by
        cases q : cs.all isColD with
        | false => rfl
        | true =>
          rw [List.all_eq_true.mp q col cm] at z
          cases z
      rw [this]
      rfl
    have next : isColD col = true → (cs.take (i + 1)).all isColD = true := fun z => by
      rw [take_snoc hi, List.all_append, hall, List.all_cons, z]
      rfl
    refine mg_name (mz_if (mt_or (mt_not (mt_B (me_isi (me_var ⟨col, rfl, _, rfl, fun k => ?_, fun k => ⟨fun _ => ?_, fun z => nomatch z⟩⟩))))))
    case refine_2 =>
      refine mz_ret (me_bl (bad (badc ?_)))
      cases col with
      | tuple ds => exact absurd rfl (ty_no k)
      | _ => rfl
    obtain ⟨ds, rfl⟩ := ty_tuple (ty_ok k)
    have scol := small_all sc0 _ cm
    obtain ⟨zd, sd0⟩ : ds.length ≤ 1000 ∧ smallAll ds = true := by simpa [small] using scol
    refine mt_or (mt_test (me_op (me_cb (ma_cons (me_var (ma_nil ?_))))))
    refine cd_lenT (me_int ?_)
    refine opd_neI ⟨_, rfl, fun k2 => ?_, fun k2 => ⟨fun _ => mz_ret (me_bl (bad (badc ?_))), fun z => nomatch z⟩⟩
    case refine_2 =>
      have k2' : (!decide ((ds.length : Int) = 2)) = true := k2
      have h2 : ¬ (ds.length : Int) = 2 := by simpa using k2'
      match ds, h2 with
      | [], _ => rfl
      | [_], _ => rfl
      | [_, _], h2 => exact absurd rfl h2
      | _ :: _ :: _ :: _, _ => rfl
    have k2' : (!decide ((ds.length : Int) = 2)) = false := k2
    have h2 : (ds.length : Int) = 2 := by simpa using k2'
    refine mt_not (mt_B (me_cb (ma_cons ?_)))
    refine me_map (j := 5) (mi_tup (me_var (e := .dat (.tuple ds)) ⟨ds, rfl, by omega, fun d => .bool (isNameD d), fun d hd => ?_, ma_nil ?_⟩))
    · exact me_call (.inl rfl) (fun z => nomatch z) (ma_cons (me_var (e := .dat d) (ma_nil ⟨rfl, d, rfl, small_all sd0 d hd, rfl, rfl⟩)))
    · rw [show Dv.fz (.own (ds.map fun d => PyData.bool (isNameD d))) = .dat (.list ((ds.map isNameD).map .bool)) from by rw [List.map_map] <;> rfl]
      have ec : isColD (.tuple ds) = (ds.map isNameD).all id := by
        match ds, h2 with
        | [a, b], _ =>
          show (isNameD a && isNameD b) = (isNameD a && (isNameD b && true))
          rw [Bool.and_true]
      refine cd_all ⟨_, rfl, fun k3 => ?_, fun k3 => ?_⟩
      · have z : isColD (.tuple ds) = false := by
          rw [ec]
          have k3' : (!(ds.map isNameD).all id) = true := k3
          simpa using k3'
        exact mz_ret (me_bl (bad (badc z)))
      · have z : isColD (.tuple ds) = true := by
          rw [ec]
          have k3' : (!(ds.map isNameD).all id) = false := k3
          simpa using k3'
        exact mz_next ⟨_, x4, x5, x6, rfl, next z, rfl⟩
  · rintro δ c ⟨x3, x4, x5, x6, rfl, hall, rfl⟩
    rw [List.take_length] at hall
    -- flags
    refine mz_seq (mz_if (mt_not (mt_B (me_cb (ma_cons ?_)))))
    refine me_map (j := 6) (mi_tup (me_var (e := .dat (.tuple fs)) ⟨fs, rfl, by omega, fun d => .bool (isNameD d), fun d hd => ?_, ma_nil ?_⟩))
    · exact me_call (.inl rfl) (fun z => nomatch z) (ma_cons (me_var (e := .dat d) (ma_nil ⟨rfl, d, rfl, small_all sf0 d hd, rfl, rfl⟩)))
    rw [show Dv.fz (.own (fs.map fun d => PyData.bool (isNameD d))) = .dat (.list ((fs.map isNameD).map .bool)) from by rw [List.map_map] <;> rfl]
    have ef : (fs.map isNameD).all id = fs.all isNameD := by
      rw [List.all_map] <;> rfl
    refine cd_all ⟨_, rfl, fun k3 => ?_, fun k3 => ?_⟩
    · have z : fs.all isNameD = false := by
        rw [← ef]
        have k3' : (!(fs.map isNameD).all id) = true := k3
        simpa using k3'
      exact mz_ret (me_bl (bad (by rw [good, z]; simp)))
    have z : fs.all isNameD = true := by
      rw [← ef]
      have k3' : (!(fs.map isNameD).all id) = false := k3
      simpa using k3'
    -- named
    refine mz_next (mz_seq (mz_setF (me_op ?_)))
    refine me_map (j := 3) (mi_tup (me_var (e := .dat (.tuple cs)) ⟨cs, rfl, by omega, fun d => .str (colName d), fun d hd => ?_, ?_⟩))
    · obtain ⟨p, q, rfl, _, _⟩ := isCol_shape (List.all_eq_true.mp hall d hd)
      refine me_op (me_var (e := .dat (.tuple [.str p, .str q])) (me_int ?_))
      exact opd_ixT (d := .str p) atI0 ⟨rfl, rfl⟩
    refine me_cb (ma_cons (me_var (e := .dat (.tuple fs)) (ma_nil ?_)))
    refine cd_listT ?_
    have fsx : fs = (fs.map txt).map .str := by
      rw [List.map_map]
      refine (List.map_congr_left fun d hd => ?_).trans (List.map_id fs) |>.symm
      obtain ⟨a, rfl, _⟩ := isName_shape (List.all_eq_true.mp z d hd)
      rfl
    have both : (cs.map fun d => PyData.str (colName d)) ++ fs = (cs.map colName ++ fs.map txt).map .str := by
      rw [List.map_append, ← fsx, List.map_map] <;> rfl
    show OpD K B rCat (.dat (.list (cs.map fun d => PyData.str (colName d)))) (.dat (.list fs)) _
    refine opd_cat (by rw [List.length_map]; omega) ?_
    rw [both]
    have lx : (cs.map colName ++ fs.map txt).length ≤ 1000 := by
      rw [List.length_append, List.length_map, List.length_map]
      omega
    refine mz_ret (me_op ?_)
    refine me_lenSet (me_var (e := .dat (.list ((cs.map colName ++ fs.map txt).map .str))) ⟨_, rfl, lx, ?_⟩)
    refine me_cb (ma_cons (me_var (e := .dat (.list ((cs.map colName ++ fs.map txt).map .str))) (ma_nil ?_)))
    refine cd_lenL ?_
    refine opd_eqI ?_
    have e : decide (((many (cs.map colName ++ fs.map txt) : Nat) : Int) = ((((cs.map colName ++ fs.map txt).map PyData.str).length : Nat) : Int)) = isTableD (.tuple [.tuple cs, .tuple fs]) := by
      rw [good, hall, z, List.length_map, Bool.true_and, Bool.true_and, ← many_eq]
      exact decide_eq_decide.mpr ⟨fun h => by exact_mod_cast h, fun h => by rw [h]⟩
    rw [e]
    exact hR
end
end K01
set_option Elab.async false
set_option linter.all false
set_option maxRecDepth 100000
set_option maxHeartbeats 4000000
/-! the data level: dict(d), d.pop(k), an owned thing among two, t * n -/
namespace Dl
open PySem PySem.Spec PyProof.Rows L2 Evl Gd LamX LiI
def dropD (ps : List (PyData × PyData)) (k : Key) : List (PyData × PyData) := ps.filter fun p => !keyIs p.1 k
section
variable {K : PySem.W.Frag} {B : Base} {F F' H H' : Hp} {v : V} {e : Dv} {δ : Env} {b n : Nat} {σ : L2.St} {d : PyData} {ds : List PyData} {ta tb te tk tv : TE} {R : Dv → Nat → Prop} {E : Ed} {D : Ends} {i j : Nat} {p : Addr} {ps : List (PyData × PyData)} {kvs : List (Key × V)} {k : Key}
/-- an owned thing is as it was -/
theorem Dr.kept (s : Sr K B b F H) {b' : Nat} (s' : Sr K B b' F' H') (g : Go B F H F' H') (h : Dr K B F H v e) : Dr K B F' H' v e := by
  refine h.go g.ex fun o p u ev hH hF h0 => ?_
  have cold := own_cold s h0
  have hH' := g.kp p u hH cold
  refine ⟨hH', s'.noT (g.nw p (by rw [hH]; exact fun z => nomatch z) hF cold) hH' fun xs e2 => ?_⟩
  rw [e2] at hH
  exact h.noTup o ev hH
/-- a, b = x, y: x may be owned -/
theorem mz_parO {i j : Nat} (h : Me K B ta δ b fun x b1 => Me K B tb δ b1 fun y b2 => E.nx ((δ.set i (some x)).set j (some y.fz)) b2) : Mz K B (tPar i j (tCons ta (tCons tb tNil))) δ b E := fun σ F H s D dd =>
  h σ F H s _ fun v x b1 F1 H1 m s1 g1 d1 n1 => by
    refine Me.run (Rest := fun y b2 => E.nx ((δ.set i (some x)).set j (some y)) b2) m (s.back s1 g1) fun w y b2 F2 H2 r s2 g2 d2 => ?_
    have d1' := d1.kept s1 s2 g2
    have s3 := s.back s2 (g1.trans g2)
    refine ⟨v, w, rfl, dd.nx _ b2 _ F2 H2 r ((s3.set i d1' fun o j' ej h1 h2 z => ?_).set j (Dr.of d2) (fun o => by rw [d2.notOwn] at o; cases o)) (g1.trans g2).ex⟩
    obtain ⟨p, e1, e2⟩ := n1 o
    rw [e1] at z
    exact s.frsl e2 j' ej h1 h2 z
abbrev rDictD : List V → Hp → VK → Prop := fun xs H Q => ∃ (a : Addr) (kvs : List (Key × V)), xs = [.ref a] ∧ Rd H a (.dK kvs) ∧ ∀ p, H p = none → Q (.ref p) (upd H p (.dK kvs))
theorem keys_nd {ds : List (PyData × PyData)} {kvs : List (Key × V)} (hk : ds.map (·.1) = kvs.map fun p => keyD p.1) (nd : (ds.map (·.1)).Nodup) : (kvs.map (·.1)).Nodup := by
  rw [hk] at nd
  have e : (kvs.map fun p => keyD p.1) = (kvs.map (·.1)).map keyD := by rw [List.map_map] <;> rfl
  rw [e] at nd
  exact List.Pairwise.of_map keyD (fun a b h z => h (congrArg keyD z)) nd
/-- dict(d) -/
theorem cd_dictD (nd : (ps.map (·.1)).Nodup) (k : R (.ownK ps) b) : CallD K B rDictD [.dat (.dict ps)] b R := fun F H s vs hs Q q => by
  obtain ⟨v, rfl, h⟩ := df1 hs
  cases (show Dq K F v (.dict ps) from h) with
  | @dct a kvs _ hr hk hv =>
    refine ⟨a, kvs, rfl, s.lk _ _ hr, fun p hp => ?_⟩
    have x := Ex.new (H := H) (p := p) (o := .dK kvs) hp
    exact q _ _ b F _ k (s.grow x) (Go.of_ex x) ⟨p, kvs, rfl, s.h0 hp, s.non hp, upd_same, hk, hv, keys_nd hk nd⟩ fun _ => ⟨p, rfl, hp⟩
theorem drop_rel : ∀ {ps : List (PyData × PyData)} {kvs : List (Key × V)}, ps.map (·.1) = kvs.map (fun p => keyD p.1) → DqAll K F (kvs.map (·.2)) (ps.map (·.2)) →
    (dropD ps k).map (·.1) = (dropK kvs k).map (fun p => keyD p.1) ∧ DqAll K F ((dropK kvs k).map (·.2)) ((dropD ps k).map (·.2))
  | [], [], _, _ => ⟨rfl, .nil⟩
  | [], _ :: _, h, _ => by cases h
  | _ :: _, [], h, _ => by cases h
  | p :: ps, kv :: kvs, h, r => by
    rw [List.map_cons, List.map_cons] at h
    injection h with h1 h2
    rw [List.map_cons, List.map_cons] at r
    cases r with
    | cons r1 r2 =>
      obtain ⟨i1, i2⟩ := drop_rel h2 r2
      unfold dropD dropK at i1 i2 ⊢
      have q : keyIs p.1 k = decide (kv.1 = k) := by rw [h1, keyIs_key]
      by_cases e : kv.1 = k
      · rw [List.filter_cons, List.filter_cons, if_neg (by rw [q, decide_eq_true e]; decide), if_neg (by rw [decide_eq_false (fun z => z e)]; decide)]
        exact ⟨i1, i2⟩
      · rw [List.filter_cons, List.filter_cons, if_pos (by rw [q, decide_eq_false e]; rfl), if_pos (decide_eq_true e), List.map_cons, List.map_cons, List.map_cons, List.map_cons, i1, h1]
        exact ⟨rfl, .cons r1 i2⟩
/-- x.pop(k), x owned -/
theorem mz_dpop {i : Nat} (h : Me K B tk δ b fun y b2 => ∃ (k : Key), y.fz = .dat (keyD k) ∧ (lookK ps k).isSome = true ∧ E.nx (δ.set i (some (.ownK (dropD ps k)))) b2) (hi : δ[i]? = some (some (.ownK ps)) := by rfl) :
    Mz K B (tDrop (tDPop1 (tVar i) tk)) δ b E := fun σ F H s D dd => by
  obtain ⟨w, h1, p, kvs, rfl, h0, hF, hH, hk, hd, nd⟩ := s.at_ i _ hi
  refine ⟨.ref p, h1, p, rfl, .inl ⟨kvs, .inl hH⟩, ?_⟩
  refine Me.run (Rest := fun y b2 => ∃ (k : Key), y = .dat (keyD k) ∧ (lookK ps k).isSome = true ∧ E.nx (δ.set i (some (.ownK (dropD ps k)))) b2) h s fun vy y b2 F2 H2 ⟨k, e1, hl, r⟩ r2 g2 d2 => ?_
  subst e1
  have s2 := s.back r2 g2
  have cold := own_cold s.toSr h0
  have hH2 := g2.kp p _ hH cold
  have hF2 := r2.noT (g2.nw p (by rw [hH]; exact fun z => nomatch z) hF cold) hH2 (fun _ z => nomatch z)
  obtain ⟨q1, q2⟩ := drop_rel (k := k) hk (hd.up g2.ex)
  rcases look_k (k := k) hk hd with ⟨d', w, l1, l2, l3⟩ | ⟨l1, _⟩
  · refine ⟨kvs, k, w, hH2, key_val (show Dq K F2 vy (keyD k) from d2), l2, ?_⟩
    exact dd.nx _ b2 σ F2 _ r (s2.write hi rfl h1 h0 hF2 (dK_code hH2) ⟨p, _, rfl, h0, hF2, upd_same, q1, q2, List.Nodup.sublist (List.Sublist.map _ List.filter_sublist) nd⟩) g2.ex
  · rw [l1] at hl
    cases hl
/-- t * n -/
theorem dqAll_rep {vs : List V} (h : DqAll K F vs ds) : ∀ n : Nat, DqAll K F (List.replicate n vs).flatten (List.replicate n ds).flatten
  | 0 => .nil
  | n + 1 => by
    rw [List.replicate_succ, List.replicate_succ, List.flatten_cons, List.flatten_cons]
    exact dqAll_app (vs := vs) h (dqAll_rep h n)
theorem opd_repT {n : Int} {R : Dv → Prop} (h1 : ds ≠ []) (h2 : 2 ≤ n) (h3 : n ≤ 1000) (h4 : ds.length ≤ 1000) (k : R (.dat (.tuple (List.replicate n.toNat ds).flatten))) : OpD K B (rRepT K) (.dat (.tuple ds)) (.dat (.int n)) R := fun b F H s vx vy hx hy Q q => by
  cases (show Dq K F vy (.int n) from hy)
  cases (show Dq K F vx (.tuple ds) from hx) with
  | @tup a xs _ hs hr =>
    refine ⟨a, n, xs, rfl, rfl, lk_t s.lk (.inl hs), fun e => ?_, h2, h3, by rw [hr.len]; exact h4, fun p hp => ?_⟩
    · subst e
      cases hr
      exact h1 rfl
    · obtain ⟨s2, g2, d2⟩ := s.newT hp (dqAll_rep hr n.toNat)
      exact q _ _ _ _ k s2 g2 d2 (Nw.no rfl)
theorem pub_items (s : Sr K B b F H) : ∀ {ts : List Addr} {kvs : List (Key × V)} {ps : List (PyData × PyData)}, Paired (fun (t : Addr) (q : Key × V) => H t = some (.tup [kV q.1, q.2])) ts kvs → ps.map (·.1) = kvs.map (fun p => keyD p.1) → DqAll K F (kvs.map (·.2)) (ps.map (·.2)) →
    ∃ F2, Sr K B b F2 H ∧ Go B F H F2 H ∧ DqAll K F2 (ts.map V.ref) (ps.map fun p => .tuple [p.1, p.2])
  | [], [], [], _, _, _ => ⟨F, s, Go.refl _ _, .nil⟩
  | [], [], _ :: _, _, h, _ => by cases h
  | _ :: _, _ :: _, [], _, h, _ => by cases h
  | t :: ts, kv :: kvs, p :: ps, r, h, hv => by
    cases r with
    | cons r1 r2 =>
      rw [List.map_cons, List.map_cons] at h
      injection h with h1 h2
      rw [List.map_cons, List.map_cons] at hv
      cases hv with
      | cons v1 v2 =>
        obtain ⟨F1, s1, g1, d1⟩ := pub_items s r2 h2 v2
        obtain ⟨F2, s2, g2, f2⟩ := s1.pubT' r1
        refine ⟨F2, s2, g1.trans g2, .cons (.tup (.inl f2) (.cons ?_ (.cons (v1.up (g1.ex.trans g2.ex)) .nil))) (d1.up g2.ex)⟩
        rw [h1]
        exact key_dq kv.1
/-- list(d.items()) -/
theorem me_listItems (hu : B.free = true ∧ B.lk = []) (h : Me K B ta δ b fun x b1 => ∃ ps, x.fz = .dat (.dict ps) ∧ R (.own (ps.map fun p => .tuple [p.1, p.2])) b1) : Me K B (tListItems ta) δ b R := fun σ F H s Q k =>
  Me.run (te := ta) (Rest := fun x b1 => ∃ ps, x = .dat (.dict ps) ∧ R (.own (ps.map fun p => .tuple [p.1, p.2])) b1) h s fun v x b1 F1 H1 ⟨ps, e, r⟩ s1 g1 d1 => by
    subst e
    cases (show Dq K F1 v (.dict ps) from d1) with
    | @dct a kvs _ hr hk hv =>
      rcases hr with hr | ⟨o, hr⟩
      · refine ⟨a, kvs, rfl, s1.unl hu.1 hu.2 hr, fun H' p ts kp hp ht npt hl pr => ?_⟩
        have x : Ex H1 H' := kp
        obtain ⟨F2, s2, g2, d2⟩ := pub_items (s1.grow x) pr hk hv
        have F1p := s1.non hp
        have F2p := s2.noT (g2.nw p (by rw [hl]; exact fun z => nomatch z) F1p (own_cold (s1.grow x) (s1.h0 hp))) hl (fun _ z => nomatch z)
        exact k (.ref p) _ b1 F2 H' r s2 (g1.trans ((Go.of_ex x).trans g2)) ⟨p, _, rfl, s1.h0 hp, F2p, hl, d2⟩ fun _ => ⟨p, rfl, g1.fresh s1 hp⟩
      · exact (xt_no (s1.nfz a o _ hr) (fun _ z => nomatch z)).elim
end
end Dl
set_option Elab.async false
set_option linter.all false
set_option maxRecDepth 100000
set_option maxHeartbeats 4000000
/-! how long data is when shown -/
namespace K01
open PySem PySem.Spec PyProof.Rows L2 Gd Evl Dl
/-- small, shallow, light -/
structure Sz (n w : Nat) (d : PyData) : Prop where
  sm : small d = true
  sh : d.showable = true
  lf : d.leavesShort 50 = true
  dp : d.depth ≤ n
  wt : d.weight ≤ w
theorem Sz.up {n m v w : Nat} {d : PyData} (h : Sz n v d) (h1 : n ≤ m) (h2 : v ≤ w) : Sz m w d := ⟨h.sm, h.sh, h.lf, Nat.le_trans h.dp h1, Nat.le_trans h.wt h2⟩
theorem Sz.fit {n w : Nat} {d : PyData} (h : Sz n w d) (h1 : n ≤ 60) (h2 : w ≤ 300000) : Fit d := by
  refine ⟨h.sh, ?_, Nat.le_trans h.dp h1⟩
  have a := PyData.shown_le 50 (by decide) d h.lf
  have b := h.wt
  show d.shown.length ≤ 2 ^ 24
  omega
structure SzAll (n w : Nat) (ds : List PyData) : Prop where
  sm : smallAll ds = true
  sh : PyData.showableAll ds = true
  lf : PyData.leavesShortAll 50 ds = true
  dp : PyData.depthAll ds ≤ n
  wt : PyData.weightAll ds ≤ ds.length * (w + 1)
theorem SzAll.of {n w : Nat} : ∀ {ds : List PyData}, (∀ d ∈ ds, Sz n w d) → SzAll n w ds
  | [], _ => ⟨rfl, by simp [PyData.showableAll], by simp [PyData.leavesShortAll], by simp [PyData.depthAll], by simp [PyData.weightAll]⟩
  | d :: r, h => by
    have a := h d List.mem_cons_self
    have b := SzAll.of (ds := r) fun x hx => h x (List.mem_cons_of_mem _ hx)
    refine ⟨?_, ?_, ?_, ?_, ?_⟩
    · rw [smallAll, a.sm, b.sm]
      rfl
    · rw [PyData.showableAll, a.sh, b.sh]
      rfl
    · rw [PyData.leavesShortAll, a.lf, b.lf]
      rfl
    · rw [PyData.depthAll]
      have := a.dp
      have := b.dp
      omega
    · rw [PyData.weightAll, List.length_cons, Nat.succ_mul]
      have := a.wt
      have := b.wt
      omega
theorem sz_tup {k n w v : Nat} {ds : List PyData} (l : ds.length ≤ k) (hk : k ≤ 1000) (hv : k * (w + 1) ≤ v) (h : ∀ d ∈ ds, Sz n w d) : Sz (n + 1) v (.tuple ds) := by
  have a := SzAll.of h
  have m : ds.length * (w + 1) ≤ k * (w + 1) := Nat.mul_le_mul_right _ l
  refine ⟨?_, by rw [PyData.showable]; exact a.sh, by rw [PyData.leavesShort]; exact a.lf, ?_, ?_⟩
  · rw [small, a.sm, decide_eq_true (by omega)]
    rfl
  · rw [PyData.depth]
    have := a.dp
    omega
  · rw [PyData.weight]
    have := a.wt
    omega
theorem sz_lst {k n w v : Nat} {ds : List PyData} (l : ds.length ≤ k) (hk : k ≤ 1000) (hv : k * (w + 1) ≤ v) (h : ∀ d ∈ ds, Sz n w d) : Sz (n + 1) v (.list ds) := by
  have a := SzAll.of h
  have m : ds.length * (w + 1) ≤ k * (w + 1) := Nat.mul_le_mul_right _ l
  refine ⟨?_, by rw [PyData.showable]; exact a.sh, by rw [PyData.leavesShort]; exact a.lf, ?_, ?_⟩
  · rw [small, a.sm, decide_eq_true (by omega)]
    rfl
  · rw [PyData.depth]
    have := a.dp
    omega
  · rw [PyData.weight]
    have := a.wt
    omega
structure SzKv (n w : Nat) (ds : List (PyData × PyData)) : Prop where
  sm : smallKv ds = true
  sh : PyData.showableKv ds = true
  lf : PyData.leavesShortKv 50 ds = true
  dp : PyData.depthKv ds ≤ n
  wt : PyData.weightKv ds ≤ ds.length * (w + 2)
theorem SzKv.of {n w u v : Nat} (e : u + v ≤ w) : ∀ {ds : List (PyData × PyData)}, (∀ p ∈ ds, Sz n u p.1 ∧ Sz n v p.2) → SzKv n w ds
  | [], _ => ⟨rfl, by simp [PyData.showableKv], by simp [PyData.leavesShortKv], by simp [PyData.depthKv], by simp [PyData.weightKv]⟩
  | (c, d) :: r, h => by
    obtain ⟨a1, a2⟩ := h (c, d) List.mem_cons_self
    have b := SzKv.of e (ds := r) fun x hx => h x (List.mem_cons_of_mem _ hx)
    refine ⟨?_, ?_, ?_, ?_, ?_⟩
    · rw [smallKv, show small c = true from a1.sm, show small d = true from a2.sm, b.sm]
      rfl
    · rw [PyData.showableKv, show PyData.showable c = true from a1.sh, show PyData.showable d = true from a2.sh, b.sh]
      rfl
    · rw [PyData.leavesShortKv, show PyData.leavesShort 50 c = true from a1.lf, show PyData.leavesShort 50 d = true from a2.lf, b.lf]
      rfl
    · rw [PyData.depthKv]
      have : PyData.depth c ≤ n := a1.dp
      have : PyData.depth d ≤ n := a2.dp
      have := b.dp
      omega
    · rw [PyData.weightKv, List.length_cons, Nat.succ_mul]
      have : PyData.weight c ≤ u := a1.wt
      have : PyData.weight d ≤ v := a2.wt
      have := b.wt
      omega
theorem sz_dct {k n w v u x : Nat} {ds : List (PyData × PyData)} (e : u + x ≤ w) (l : ds.length ≤ k) (hk : k ≤ 1000) (hv : k * (w + 2) ≤ v) (h : ∀ p ∈ ds, Sz n u p.1 ∧ Sz n x p.2) : Sz (n + 1) v (.dict ds) := by
  have a := SzKv.of e h
  have m : ds.length * (w + 2) ≤ k * (w + 2) := Nat.mul_le_mul_right _ l
  refine ⟨?_, by rw [PyData.showable]; exact a.sh, by rw [PyData.leavesShort]; exact a.lf, ?_, ?_⟩
  · rw [small, a.sm, decide_eq_true (by omega)]
    rfl
  · rw [PyData.depth]
    have := a.dp
    omega
  · rw [PyData.weight]
    have := a.wt
    omega
/-- texts of few signs -/
theorem sz_str {x : Str} {n w : Nat} (h : ∀ c ∈ x.cps.toList, c < 16 ^ 8) (l : x.length ≤ w) (hw : w ≤ 1000) : Sz n w (.str x) := by
  refine ⟨?_, by rw [PyData.showable], ?_, by rw [PyData.depth]; exact Nat.zero_le _, ?_⟩
  · rw [small, decide_eq_true (by omega)]
  · rw [PyData.leavesShort, List.all_eq_true]
    exact fun c hc => decide_eq_true (h c hc)
  · rw [PyData.weight]
    exact l
theorem low_cps {x : Str} (h : x.cps.toList.all low = true) : ∀ c ∈ x.cps.toList, c < 16 ^ 8 := fun c hc => by
  have := List.all_eq_true.mp h c hc
  unfold low at this
  simp only [Bool.and_eq_true, decide_eq_true_eq] at this
  have : (16 : Nat) ^ 8 = 4294967296 := by decide
  omega
theorem name_low {x : Str} (h : isNameS x = true) : x.cps.toList.all low = true ∧ 1 ≤ x.length ∧ x.length ≤ 8 := by
  unfold isNameS at h
  simp only [Bool.and_eq_true, decide_eq_true_eq] at h
  exact ⟨h.2, by omega, by omega⟩
theorem sz_name {x : Str} {n w : Nat} (h : isNameS x = true) (hw : 8 ≤ w) (h2 : w ≤ 1000) : Sz n w (.str x) := by
  obtain ⟨a, b, c⟩ := name_low h
  exact sz_str (low_cps a) (by omega) h2
/-! by levels: odd ones and texts, columns, tuples of them, tables -/
def fan : Nat → Nat
  | 0 => 3
  | 1 => 10
  | _ => 3
def Wt : Nat → Nat
  | 0 => 140
  | k + 1 => fan k * (Wt k + 1)
abbrev Sm (k : Nat) (d : PyData) : Prop := Sz (k + 1) (Wt k) d
theorem fan_le (k : Nat) : 1 ≤ fan k ∧ fan k ≤ 10 := by
  match k with
  | 0 => decide
  | 1 => decide
  | _ + 2 => exact ⟨by show 1 ≤ 3; decide, by show 3 ≤ 10; decide⟩
theorem wt_le (k : Nat) : Wt k ≤ Wt (k + 1) := by
  show Wt k ≤ fan k * (Wt k + 1)
  have := (fan_le k).1
  exact Nat.le_trans (Nat.le_succ _) (Nat.le_mul_of_pos_left _ this)
theorem Sm.up {k : Nat} {d : PyData} (h : Sm k d) : Sm (k + 1) d := Sz.up h (by omega) (wt_le k)
theorem wt_0 : ∀ k, 140 ≤ Wt k
  | 0 => Nat.le_refl _
  | k + 1 => Nat.le_trans (wt_0 k) (wt_le k)
theorem Sm.of0 {k : Nat} {d : PyData} (h : Sm 0 d) : Sm k d := Sz.up h (by omega) (wt_0 k)
theorem sm_tup {k : Nat} {ds : List PyData} (l : ds.length ≤ fan k) (h : ∀ d ∈ ds, Sm k d) : Sm (k + 1) (.tuple ds) := sz_tup l (Nat.le_trans (fan_le k).2 (by decide)) (Nat.le_refl _) h
theorem sm_lst {k : Nat} {ds : List PyData} (l : ds.length ≤ fan k) (h : ∀ d ∈ ds, Sm k d) : Sm (k + 1) (.list ds) := sz_lst l (Nat.le_trans (fan_le k).2 (by decide)) (Nat.le_refl _) h
theorem sm_name {k : Nat} {x : Str} (h : isNameS x = true) : Sm k (.str x) := Sm.of0 (sz_name h (by decide) (by decide))
theorem sm_nilT {k : Nat} : Sm k (.tuple []) := Sm.of0 (sz_tup (k := 0) (n := 0) (w := 0) (Nat.le_refl 0) (by decide) (by decide) fun d hd => by cases hd)
theorem sm2 {k : Nat} {a b : PyData} (h1 : Sm k a) (h2 : Sm k b) : Sm (k + 1) (.tuple [a, b]) := sm_tup (by show 2 ≤ fan k; match k with | 0 => decide | 1 => decide | _ + 2 => exact (by decide : 2 ≤ 3)) fun x hx => by
  simp only [List.mem_cons, List.not_mem_nil, or_false] at hx
  rcases hx with rfl | rfl <;> assumption
theorem sm1 {k : Nat} {a : PyData} (h1 : Sm k a) : Sm (k + 1) (.tuple [a]) := sm_tup (fan_le k).1 fun x hx => by
  simp only [List.mem_cons, List.not_mem_nil, or_false] at hx
  rcases hx with rfl
  assumption
theorem sm3 {k : Nat} {a b c : PyData} (h1 : Sm k a) (h2 : Sm k b) (h3 : Sm k c) : Sm (k + 1) (.tuple [a, b, c]) := sm_tup (by show 3 ≤ fan k; match k with | 0 => decide | 1 => decide | _ + 2 => exact Nat.le_refl 3) fun x hx => by
  simp only [List.mem_cons, List.not_mem_nil, or_false] at hx
  rcases hx with rfl | rfl | rfl <;> assumption
theorem sm_cols {t : Tab} (h : TabOk t) {k : Nat} : ∀ d ∈ t.2.1.map colD, Sm (k + 1) d := fun d hd => by
  obtain ⟨c, hc, rfl⟩ := List.mem_map.mp hd
  obtain ⟨a, b⟩ := h.cn c hc
  exact sm2 (sm_name a) (sm_name b)
theorem sm_flags {t : Tab} (h : TabOk t) {k : Nat} : ∀ d ∈ t.2.2.map PyData.str, Sm k d := fun d hd => by
  obtain ⟨f, hf, rfl⟩ := List.mem_map.mp hd
  exact sm_name (h.fn f hf)
theorem fan3 (k : Nat) : 3 ≤ fan k := by
  match k with
  | 0 => decide
  | 1 => decide
  | _ + 2 => exact Nat.le_refl 3
theorem sm_ct {t : Tab} (h : TabOk t) : Sm 2 (.tuple (t.2.1.map colD)) := sm_tup (k := 1) (by rw [List.length_map]; exact Nat.le_trans h.c3 (fan3 _)) (sm_cols h)
theorem sm_ft {t : Tab} (h : TabOk t) : Sm 2 (.tuple (t.2.2.map PyData.str)) := sm_tup (k := 1) (by rw [List.length_map]; have := h.f2; have := fan3 1; omega) (sm_flags h)
theorem sm_tab {t : Tab} (h : TabOk t) : Sm 3 (tabD t.2) := sm2 (sm_ct h) (sm_ft h)
theorem odd_sm {k : Nat} : ∀ d ∈ oddD, Sm k d := by
  have all : ∀ d ∈ oddD, small d = true ∧ d.showable = true ∧ d.leavesShort 50 = true ∧ d.depth ≤ 1 ∧ d.weight ≤ 140 := by
    have : (oddD.all fun d => small d && d.showable && d.leavesShort 50 && decide (d.depth ≤ 1) && decide (d.weight ≤ 140)) = true := by decide +kernel
    intro d hd
    have q := List.all_eq_true.mp this d hd
    simp only [Bool.and_eq_true, decide_eq_true_eq] at q
    exact ⟨q.1.1.1.1, q.1.1.1.2, q.1.1.2, q.1.2, q.2⟩
  intro d hd
  obtain ⟨a, b, c, e, f⟩ := all d hd
  exact Sm.of0 ⟨a, b, c, e, f⟩
end K01
set_option Elab.async false
set_option linter.all false
set_option maxRecDepth 100000
set_option maxHeartbeats 4000000
/-! small data -/
namespace K01
open PySem PySem.Spec PyProof.Rows L2 Gd Evl Dl
theorem smallAll_of : ∀ {ds : List PyData}, (∀ d ∈ ds, small d = true) → smallAll ds = true
  | [], _ => rfl
  | d :: r, h => by
    rw [smallAll, h d List.mem_cons_self, smallAll_of fun x hx => h x (List.mem_cons_of_mem _ hx)]
    rfl
theorem small_tup {ds : List PyData} (l : ds.length ≤ 1000) (h : ∀ d ∈ ds, small d = true) : small (.tuple ds) = true := by
  rw [small, smallAll_of h, decide_eq_true l]
  rfl
theorem small_lst {ds : List PyData} (l : ds.length ≤ 1000) (h : ∀ d ∈ ds, small d = true) : small (.list ds) = true := by
  rw [small, smallAll_of h, decide_eq_true l]
  rfl
theorem smallKv_of : ∀ {ds : List (PyData × PyData)}, (∀ p ∈ ds, small p.1 = true ∧ small p.2 = true) → smallKv ds = true
  | [], _ => rfl
  | (a, b) :: r, h => by
    obtain ⟨h1, h2⟩ := h (a, b) List.mem_cons_self
    rw [smallKv, h1, h2, smallKv_of fun x hx => h x (List.mem_cons_of_mem _ hx)]
    rfl
theorem small_name {x : Str} (h : isNameS x = true) : small (.str x) = true := by
  unfold isNameS at h
  simp only [Bool.and_eq_true, decide_eq_true_eq] at h
  rw [small, decide_eq_true (by omega)]
theorem small_cols {t : Tab} (h : TabOk t) : ∀ d ∈ t.2.1.map colD, small d = true := fun d hd => by
  obtain ⟨c, hc, rfl⟩ := List.mem_map.mp hd
  obtain ⟨a, b⟩ := h.cn c hc
  exact small_tup (by show 2 ≤ 1000; decide) fun x hx => by
    rcases List.mem_cons.mp hx with rfl | hx
    · exact small_name a
    · rcases List.mem_cons.mp hx with rfl | hx
      · exact small_name b
      · cases hx
theorem small_flags {t : Tab} (h : TabOk t) : ∀ d ∈ t.2.2.map PyData.str, small d = true := fun d hd => by
  obtain ⟨f, hf, rfl⟩ := List.mem_map.mp hd
  exact small_name (h.fn f hf)
theorem small_ct {t : Tab} (h : TabOk t) : small (.tuple (t.2.1.map colD)) = true := small_tup (by rw [List.length_map]; have := h.c3; omega) (small_cols h)
theorem small_ft {t : Tab} (h : TabOk t) : small (.tuple (t.2.2.map PyData.str)) = true := small_tup (by rw [List.length_map]; have := h.f2; omega) (small_flags h)
theorem small2 {a b : PyData} (h1 : small a = true) (h2 : small b = true) : small (.tuple [a, b]) = true := small_tup (by show 2 ≤ 1000; decide) fun x hx => by
  rcases List.mem_cons.mp hx with rfl | hx
  · exact h1
  · rcases List.mem_cons.mp hx with rfl | hx
    · exact h2
    · cases hx
theorem small_tab {t : Tab} (h : TabOk t) : small (tabD t.2) = true := small2 (small_ct h) (small_ft h)
theorem odd_small : ∀ d ∈ oddD, small d = true := by
  have : oddD.all small = true := by decide +kernel
  exact List.all_eq_true.mp this
/-- a dict in the making -/
structure GP (n : Nat) (ps : List (PyData × PyData)) : Prop where
  len : ps.length ≤ n
  nd : (ps.map (·.1)).Nodup
  ks : ∀ p ∈ ps, ∃ k : Key, p.1 = keyD k
  sm : ∀ p ∈ ps, Sm 0 p.1 ∧ Sm 3 p.2
theorem GP.plan {p : List Tab} (h : PlanOk p) : GP 4 (p.map planP) where
  len := by rw [List.length_map]; exact h.n4
  nd := by
    have q : (p.map planP).map (·.1) = (p.map (·.1)).map PyData.str := by rw [List.map_map, List.map_map] <;> rfl
    rw [q]
    exact List.Pairwise.map PyData.str (fun a b h z => h (by cases z; rfl)) h.nd
  ks := fun x hx => by
    obtain ⟨t, _, rfl⟩ := List.mem_map.mp hx
    exact ⟨.inr t.1, rfl⟩
  sm := fun x hx => by
    obtain ⟨t, ht, rfl⟩ := List.mem_map.mp hx
    exact ⟨sm_name (h.tb t ht).nm, sm_tab (h.tb t ht)⟩
theorem GP.put {n : Nat} {ps : List (PyData × PyData)} {k : Key} {d : PyData} (h : GP n ps) (hk : Sm 0 (keyD k)) (hd : Sm 3 d) : GP (n + 1) (putD ps k d) := by
  have hl := h.len
  unfold putD
  by_cases e : (ps.any fun p => keyIs p.1 k) = true
  · rw [if_pos e]
    have keys : (ps.map (fun p => if keyIs p.1 k = true then (p.1, d) else p)).map (·.1) = ps.map (·.1) := by
      rw [List.map_map]
      refine List.map_congr_left fun p _ => ?_
      show (if keyIs p.1 k = true then (p.1, d) else p).1 = p.1
      split <;> rfl
    refine ⟨by rw [List.length_map]; omega, by rw [keys]; exact h.nd, fun p hp => ?_, fun p hp => ?_⟩
    · obtain ⟨q, hq, rfl⟩ := List.mem_map.mp hp
      obtain ⟨k', ek⟩ := h.ks q hq
      refine ⟨k', ?_⟩
      split <;> exact ek
    · obtain ⟨q, hq, rfl⟩ := List.mem_map.mp hp
      obtain ⟨s1, s2⟩ := h.sm q hq
      split
      · exact ⟨s1, hd⟩
      · exact ⟨s1, s2⟩
  · rw [if_neg e]
    refine ⟨by rw [List.length_append, List.length_singleton]; omega, ?_, fun p hp => ?_, fun p hp => ?_⟩
    · rw [List.map_append]
      refine List.nodup_append.mpr ⟨h.nd, by simp, fun a ha c hc z => ?_⟩
      have hc' : c = keyD k := by simpa using hc
      rw [z, hc'] at ha
      obtain ⟨q, hq, eq⟩ := List.mem_map.mp ha
      exact e (List.any_eq_true.mpr ⟨q, hq, by rw [eq, keyIs_key, decide_eq_true rfl]⟩)
    · rcases List.mem_append.mp hp with hp | hp
      · exact h.ks p hp
      · have : p = (keyD k, d) := by simpa using hp
        exact ⟨k, by rw [this]⟩
    · rcases List.mem_append.mp hp with hp | hp
      · exact h.sm p hp
      · have : p = (keyD k, d) := by simpa using hp
        rw [this]
        exact ⟨hk, hd⟩
theorem GP.drop {n : Nat} {ps : List (PyData × PyData)} {k : Key} (h : GP n ps) : GP n (dropD ps k) where
  len := Nat.le_trans (List.length_filter_le ..) h.len
  nd := List.Nodup.sublist (List.Sublist.map _ List.filter_sublist) h.nd
  ks := fun p hp => h.ks p (List.mem_filter.mp hp).1
  sm := fun p hp => h.sm p (List.mem_filter.mp hp).1
/-- what bent things are -/
structure BOk (d : PyData) : Prop where
  sm : small d = true
  dok : DOk d
  fit : Fit d
theorem GP.sz {n : Nat} {ps : List (PyData × PyData)} (h : GP n ps) (hn : n ≤ 10) : Sz 5 200000 (.dict ps) :=
  sz_dct (n := 4) (u := 140) (x := 12723) (w := 12863) (k := 10) (by decide) (Nat.le_trans h.len hn) (by decide) (by decide) fun p hp => ⟨Sz.up (h.sm p hp).1 (by decide) (by decide), Sz.up (h.sm p hp).2 (by decide) (by decide)⟩
theorem GP.dok {n : Nat} {ps : List (PyData × PyData)} (h : GP n ps) : DOk (.dict ps) := fun ds e => by
  cases e
  exact ⟨h.nd, h.ks⟩
theorem GP.bok {n : Nat} {ps : List (PyData × PyData)} (h : GP n ps) (hn : n ≤ 10) : BOk (.dict ps) := ⟨(h.sz hn).sm, h.dok, (h.sz hn).fit (by decide) (by decide)⟩
theorem dok_of {d : PyData} (h : ∀ ds, d ≠ .dict ds) : DOk d := fun ds e => absurd e (h ds)
end K01
set_option Elab.async false
set_option linter.all false
set_option maxRecDepth 100000
set_option maxHeartbeats 0
namespace K01
open PySem PySem.Spec PyProof.Rows L2 Gd Evl Dl LiI
structure LbT (mg : Str → Option Value) : Prop extends LtT mg where
  range : mg "range" = none
abbrev NB : List Str := ["pen", "plan", "tables", "road", "name", "columns", "flags", "spot", "odd", "more", "parts", "some", "k"]
theorem odd_eqok : ∀ d ∈ oddD, EqOk d (.int (10 ^ 39)) = true := by
  have : oddD.all (fun d => EqOk d (.int (10 ^ 39))) = true := by decide +kernel
  exact List.all_eq_true.mp this
def isIntD : PyData → Bool
  | .int _ => true
  | _ => false
theorem odd_int : ∀ d ∈ oddD, PyData.eqv d (.int (10 ^ 39)) = true → ∃ i, d = .int i := by
  have all : oddD.all (fun d => !PyData.eqv d (.int (10 ^ 39)) || isIntD d) = true := by decide +kernel
  intro d hd he
  have := List.all_eq_true.mp all d hd
  rw [he] at this
  cases d with
  | int i => exact ⟨i, rfl⟩
  | _ => cases this
theorem cutD_sub {ds : List PyData} {lo hi : Option Int} {x : PyData} (h : x ∈ Dl.cutD ds lo hi) : x ∈ ds := by
  unfold Dl.cutD at h
  exact List.mem_of_mem_drop (List.mem_of_mem_take h)
theorem cutD_le {ds : List PyData} {lo hi : Option Int} : (Dl.cutD ds lo hi).length ≤ ds.length := by
  unfold Dl.cutD
  rw [List.length_take, List.length_drop]
  omega
theorem mz_env {K : PySem.W.Frag} {B : Base} {ts : TS} {δ δ' : Dl.Env} {b : Nat} {E : Ed} (e : δ = δ') (h : Mz K B ts δ' b E) : Mz K B ts δ b E := e ▸ h
def spBent : DSpec := fun es b R _ => ∃ (b0 : Nat) (p : List Tab), es = [.pen, .dat (.dict (p.map planP))] ∧ PlanOk p ∧ b = b0 + 6 ∧ ∀ d, BOk d → R (.dat d) b0
section
variable {P : Program} {w : World} {K : PySem.W.Frag} {mg : Str → Option Value} {base : Heap} {f fN fD fO : Addr} {fd fdN fdD fdO : FuncData}
theorem scBent : FnScope NB ["pen", "plan"] (defScope sBent) := ⟨rfl, rfl, rfl, by decide +kernel, rfl, by decide +kernel, by decide +kernel⟩
theorem ok_bent (T : DrT mg fN fD) (L : LbT mg) (hS : SysD K) (FN : FnP K "_law_next" sNext fN fdN) (FD : FnP K "_law_draw" sDraw fD fdD) (FO : FnP K "_law_odd" sOdd fO fdO) (gO : mg "_law_odd" = some (.ref fO)) (F : FnP K "_law_bent" sBent f fd) : FnOk P w K mg base CX0 4 f fd ["pen", "plan"] (spD K 2 true [] spBent) := by
  have GD : FnOk P w K mg base CX0 2 fD fdD ["pen", "under"] spDraw := ok_draw T.pen FN FD
  have bD : Binds K fdD ["pen", "under"] [] := FD.bindsN fun _ _ _ _ _ _ us hl => match us, hl with | [_, _], _ => rfl
  have GO : FnOk P w K mg base CX0 3 fO fdO ["pen"] (spD K 1 false [] spOdd) := ok_odd T FN FD L.len FO
  have bO : Binds K fdO ["pen"] [] := FO.bindsN fun _ _ _ _ _ _ us hl => match us, hl with | [_], _ => rfl
  refine F.ok scBent (fun vs H Q E h => spD_len h) (fun cdv A outer s H vs Q E hr h => ⟨_, PSs.nox (pss_cons (ps_par (i := 2) (j := 3) rfl scBent.nd rfl rfl (by decide) rfl rfl (pa_cons (pe_callTy call_dictD (by rfl) L.dict (by decide +kernel) (pa_cons (pv 1) pa_nil)) (pa_cons (pe_call GD (hr.mono (by decide)) (by rfl) T.gD FD.kp bD .nil pass0 (pa_cons (pv 0) (pa_cons pe_int pa_nil))) pa_nil)) (by rfl))
    (pss_cons (ps_set (i := 4) scBent.nd rfl (Or.inl rfl) (pe_ix ix_list (pe_callB (call_sortedD rfl) (by rfl) L.sorted (by decide +kernel) (pa_cons (pv 1) pa_nil)) (pe_call GD (hr.mono (by decide)) (by rfl) T.gD FD.kp bD .nil pass0 (pa_cons (pv 0) (pa_cons (pe_callB call_lenD (by rfl) L.len PySem.boot_len (pa_cons (pv 1) pa_nil)) pa_nil))) (fun _ _ => rfl)))
    (pss_cons (ps_asg (pe_dget (hu_of hr) (pv 1) (pv 4) (fun _ _ => rfl)) (pg_tup rfl (pgs_cons (pg_name (i := 5) scBent.nd rfl (Or.inl rfl)) (pgs_cons (pg_name (i := 6) scBent.nd rfl (Or.inl rfl)) pgs_nil))))
    (pss_cons (ps_par (i := 7) (j := 8) rfl scBent.nd rfl rfl (by decide) rfl rfl (pa_cons (pe_call GD (hr.mono (by decide)) (by rfl) T.gD FD.kp bD .nil pass0 (pa_cons (pv 0) (pa_cons (pe_callB call_len_seq (by rfl) L.len PySem.boot_len (pa_cons (pv 5) pa_nil)) pa_nil))) (pa_cons (pe_call GO hr (by rfl) gO FO.kp bO .nil pass0 (pa_cons (pv 0) pa_nil)) pa_nil)) (by rfl))
    (pss_cons (ps_if (pt_cmpR op_eq (pv 3) pe_int (nomark _)) (pss_one (ps_ret (pe_ix ix_list (pe_lst (pa_cons pe_non (pa_cons (pe_lst pa_nil) (pa_cons pe_dnewK (pa_cons (pe_tup pa_nil) (pa_cons pe_str (pa_cons (pe_listItems rfl (pv 1) (by rfl) L.list (by decide +kernel)) (pa_cons (pe_callB (call_sortedD rfl) (by rfl) L.sorted (by decide +kernel) (pa_cons (pv 1) pa_nil)) (pa_cons pe_int pa_nil))))))))) (pe_call GD (hr.mono (by decide)) (by rfl) T.gD FD.kp bD .nil pass0 (pa_cons (pv 0) (pa_cons pe_int pa_nil))) (fun _ _ => rfl)))) pss_nil)
    (pss_cons (ps_if (pt_cmpR op_eq (pv 3) pe_int (nomark _)) (pss_cons (ps_expr (pe_dpop1 (pv 2) (pv 4) (by constructor <;> rfl)))
    (pss_cons (ps_if (PW.pt (pw_or (pt_val (pe_callB call_isi (by rfl) L.isi (by decide +kernel) (pa_cons (pv 8) (pa_cons (pe_bltn (v := .ty "str") (by rfl) L.str (by decide +kernel) rfl) pa_nil)))) (pw_or1 (pt_cmpR (op_eqQ (hu70_of hr) hS) (pv 8) (pe_op op_pow pe_int pe_int) (nomark _))))) (pss_one (ps_dput (hu_of hr) (pv 2) (pv 8) (pe_tup (pa_cons (pv 5) (pa_cons (pv 6) pa_nil))) (by rfl))) pss_nil)
    (pss_one (ps_ret (pv 2))))) pss_nil)
    (pss_cons (ps_if (pt_cmpR op_eq (pv 3) pe_int (nomark _)) (pss_cons (ps_for PassesOwn.never rfl (pi_range1 rfl L.range (pa_cons (pe_call GD (hr.mono (by decide)) (by rfl) T.gD FD.kp bD .nil pass0 (pa_cons (pv 0) (pa_cons pe_int pa_nil))) pa_nil)) (pg_name (i := 9) scBent.nd rfl (Or.inl rfl)) (pss_one (ps_dput (hu_of hr) (pv 2) (pe_op op_add_str pe_str (pe_ix ix_str pe_str (pv 9) (fun _ _ => rfl))) (pe_tup (pa_cons (pv 5) (pa_cons (pv 6) pa_nil))) (by rfl))))
    (pss_one (ps_ret (pv 2)))) pss_nil)
    (pss_cons (ps_set (i := 10) scBent.nd rfl (Or.inl rfl) (pe_lst (pa_cons (pe_tup (pa_cons (pv 5) pa_nil)) (pa_cons (pe_lst (pa_cons (pv 5) (pa_cons (pv 6) pa_nil))) (pa_cons (pe_tup (pa_cons (pv 5) (pa_cons (pv 6) (pa_cons (pe_tup pa_nil) pa_nil)))) (pa_cons (pe_tup (pa_cons (pe_callTy call_list_of (by rfl) L.list (by decide +kernel) (pa_cons (pv 5) pa_nil)) (pa_cons (pv 6) pa_nil))) (pa_cons (pe_tup (pa_cons (pv 5) (pa_cons (pe_callTy call_list_of (by rfl) L.list (by decide +kernel) (pa_cons (pv 6) pa_nil)) pa_nil))) (pa_cons (pv 8) pa_nil))))))))
    (pss_cons (ps_set (i := 10) scBent.nd rfl (Or.inl rfl) (pe_op op_cat (pv 10) (pe_lst (pa_cons (pe_tup (pa_cons (pe_tup pa_nil) (pa_cons (pv 6) pa_nil))) (pa_cons (pe_tup (pa_cons (pe_op op_repT (pv 5) pe_int) (pa_cons (pv 6) pa_nil))) (pa_cons (pe_tup (pa_cons (pv 5) (pa_cons (pe_op op_catA (pv 6) (pe_tup (pa_cons pe_str (pa_cons pe_str (pa_cons pe_str pa_nil))))) pa_nil))) (pa_cons (pe_tup (pa_cons (pv 6) (pa_cons (pv 5) pa_nil))) pa_nil)))))))
    (pss_cons (ps_expr (pe_bm PySem.F.plainAttrs_list PySem.F.slot_list_append rfl mt_append (pv 10) (pa_cons (pe_tup (pa_cons (pe_op op_catA (pe_slice sl_tupA (pv 5) po_none (po_some pe_int)) (pe_tup (pa_cons (pe_tup (pa_cons pe_str (pa_cons pe_str pa_nil))) (pa_cons (pe_tup (pa_cons pe_str (pa_cons pe_str pa_nil))) (pa_cons (pe_tup (pa_cons pe_str (pa_cons pe_str pa_nil))) pa_nil))))) (pa_cons (pv 6) pa_nil))) pa_nil)))
    (pss_cons (ps_set (i := 11) scBent.nd rfl (Or.inl rfl) (pe_lst (pa_cons (pe_slice sl_tupA (pe_ix ix_tup (pv 5) (pv 7) (fun _ _ => rfl)) po_none (po_some pe_int)) (pa_cons (pe_callTy call_list_of (by rfl) L.list (by decide +kernel) (pa_cons (pe_ix ix_tup (pv 5) (pv 7) (fun _ _ => rfl)) pa_nil)) (pa_cons (pe_op op_catA (pe_ix ix_tup (pv 5) (pv 7) (fun _ _ => rfl)) (pe_tup (pa_cons pe_str pa_nil))) (pa_cons (pe_tup (pa_cons (pv 8) (pa_cons pe_str pa_nil))) (pa_cons (pe_tup (pa_cons (pe_ix ix_tup (pe_ix ix_tup (pv 5) (pv 7) (fun _ _ => rfl)) pe_int (fun _ _ => rfl)) (pa_cons (pv 8) pa_nil))) (pa_cons (pv 8) pa_nil))))))))
    (pss_cons (ps_if (pt_cmpR op_lt (pv 3) pe_int (nomark _)) (pss_one (ps_dput (hu_of hr) (pv 2) (pv 4) (pe_ix ix_list (pv 10) (pe_call GD (hr.mono (by decide)) (by rfl) T.gD FD.kp bD .nil pass0 (pa_cons (pv 0) (pa_cons (pe_callB call_len_seq (by rfl) L.len PySem.boot_len (pa_cons (pv 10) pa_nil)) pa_nil))) (fun _ _ => rfl)) (by rfl))) (pss_one (ps_if (pt_cmpR op_lt (pv 3) pe_int (nomark _)) (pss_one (ps_dput (hu_of hr) (pv 2) (pv 4) (pe_tup (pa_cons (pe_op op_catA (pe_op op_catA (pe_slice sl_tupA (pv 5) po_none (po_some (pv 7))) (pe_tup (pa_cons (pe_ix ix_list (pv 11) (pe_call GD (hr.mono (by decide)) (by rfl) T.gD FD.kp bD .nil pass0 (pa_cons (pv 0) (pa_cons pe_int pa_nil))) (fun _ _ => rfl)) pa_nil))) (pe_slice sl_tupA (pv 5) (po_some (pe_op op_add (pv 7) pe_int)) po_none)) (pa_cons (pv 6) pa_nil))) (by rfl))) (pss_one (ps_if (pt_cmpR op_eq (pv 3) pe_int (nomark _)) (pss_cons (ps_set (i := 12) scBent.nd rfl (Or.inl rfl) (pe_call GD (hr.mono (by decide)) (by rfl) T.gD FD.kp bD .nil pass0 (pa_cons (pv 0) (pa_cons (pe_op op_add (pe_callB call_len_seq (by rfl) L.len PySem.boot_len (pa_cons (pv 6) pa_nil)) pe_int) pa_nil))))
    (pss_one (ps_dput (hu_of hr) (pv 2) (pv 4) (pe_tup (pa_cons (pv 5) (pa_cons (pe_op op_catA (pe_op op_catA (pe_slice sl_tupA (pv 6) po_none (po_some (pv 12))) (pe_tup (pa_cons (pv 8) pa_nil))) (pe_slice sl_tupA (pv 6) (po_some (pv 12)) po_none)) pa_nil))) (by rfl)))) (pss_cons (ps_set (i := 9) scBent.nd rfl (Or.inl rfl) (pe_slice sl_list (pe_slice sl_list (pe_op op_cat (pe_lst (pa_cons (pe_ix ix_tup (pe_ix ix_tup (pv 5) pe_int (fun _ _ => rfl)) pe_int (fun _ _ => rfl)) (pa_cons pe_str pa_nil))) (pe_callTy call_list_of (by rfl) L.list (by decide +kernel) (pa_cons (pe_slice sl_tupA (pv 6) po_none (po_some pe_int)) pa_nil))) (po_some (pe_call GD (hr.mono (by decide)) (by rfl) T.gD FD.kp bD .nil pass0 (pa_cons (pv 0) (pa_cons pe_int pa_nil)))) po_none) po_none (po_some pe_int)))
    (pss_one (ps_dput (hu_of hr) (pv 2) (pv 4) (pe_tup (pa_cons (pv 5) (pa_cons (pe_op op_catA (pv 6) (pe_callTy call_tuple_of (by rfl) L.tuple (by decide +kernel) (pa_cons (pv 9) pa_nil))) pa_nil))) (by rfl)))))))))
    (pss_one (ps_ret (pv 2))))))))))))))), ?_⟩)
  refine spD_enter h (by decide) fun B b es R he hT hu hX hBX ⟨b0, p, e, pOk, hb, hR⟩ => ?_
  subst e hb
  have hul := hu rfl
  have gp0 := GP.plan pOk
  have fin : ∀ (ps : List (PyData × PyData)) (n c : Nat) (x0 x1 x3 x4 x5 x6 x7 x8 x9 x10 x11 x12 : Option Dv) (Z : Ed), Z.rt = R → GP n ps → n ≤ 10 → b0 ≤ c → Mz K B (tRet (tVar 2)) [x0, x1, some (.ownK ps), x3, x4, x5, x6, x7, x8, x9, x10, x11, x12] c Z :=
    fun ps n c x0 x1 x3 x4 x5 x6 x7 x8 x9 x10 x11 x12 Z hZ g hn hc => mz_less hc (mz_fz (i := 2) rfl (mz_ret (me_var (by rw [hZ]; exact hR _ (g.bok hn)))))
  refine mz_seq (mz_parO (me_cb (ma_cons (me_var (ma_nil ?_)))))
  refine cd_dictD gp0.nd ?_
  refine me_callV (ma_cons (me_var (e := .pen) (ma_cons (me_int (ma_nil ?_)))))
  refine cd_draw (b := b0 + 5) (by decide) (by decide) fun road r0 r1 => ?_
  -- name
  refine mz_seq (mz_set (me_op (me_cb (ma_cons (me_var (e := .dat (.dict (p.map planP))) (ma_nil ?_))))))
  refine cd_sortK (ks := p.map (·.1)) (by rw [List.map_map, List.map_map] <;> rfl) (by rw [List.length_map]; have := pOk.n4; omega) ?_
  refine me_callV (ma_cons (me_var (e := .pen) (ma_cons (me_cb (ma_cons (me_var (e := .dat (.dict (p.map planP))) (ma_nil ?_)))))))
  refine cd_lenK hul (ma_nil ?_)
  have n1 := pOk.n1
  have n4 := pOk.n4
  refine cd_draw (b := b0 + 4) (by rw [List.length_map]; omega) (by rw [List.length_map]; omega) fun g g0 g1 => ?_
  rw [List.length_map] at g1
  obtain ⟨j, rfl⟩ : ∃ j : Nat, g = (j : Int) := ⟨g.toNat, by omega⟩
  have jl : j < (sortS (p.map (·.1))).length := by
    rw [(sortS_perm _).length_eq, List.length_map]
    omega
  obtain ⟨t, tm, ht⟩ : ∃ t ∈ p, t.1 = (sortS (p.map (·.1)))[j] := by
    have := (sortS_perm (p.map (·.1))).mem_iff.mp (List.getElem_mem jl)
    obtain ⟨t, a, b⟩ := List.mem_map.mp this
    exact ⟨t, a, b⟩
  have tok := pOk.tb t tm
  refine opd_ixL (d := .str t.1) (atI_at (j := j) rfl (by rw [List.getElem?_map, List.getElem?_eq_getElem jl, ht] <;> rfl)) ?_
  -- columns, flags
  refine mz_seq (mz_asg (me_dget (me_var (me_var ⟨_, .inr t.1, _, rfl, rfl, look_mem pOk.nd tm, mg_names (n := 2) (is := [5, 6]) rfl rfl ?_⟩))))
  refine mz_seq (mz_par (ma_cons (me_callV (ma_cons (me_var (e := .pen) (ma_cons (me_cb (ma_cons (me_var (e := .dat (.tuple (t.2.1.map colD))) (ma_nil ?_)))))))))) 
  refine cd_lenT (ma_nil ?_)
  have c1 := tok.c1
  have c3 := tok.c3
  have f2 := tok.f2
  refine cd_draw (b := b0 + 3) (by rw [List.length_map]; omega) (by rw [List.length_map]; omega) fun sp sp0 sp1 => ?_
  rw [List.length_map] at sp1
  refine ma_cons (me_call (.inl rfl) (fun z => nomatch z) (ma_cons (me_var (e := .pen) (ma_nil ⟨rfl, b0 + 2, rfl, rfl, fun odd ho => ma_nil ⟨_, _, rfl, ?_⟩⟩))))
  have so : ∀ {k : Nat}, Sm k odd := odd_sm odd ho
  refine mz_env (δ' := [some .pen, some (.dat (.dict (p.map planP))), some (.ownK (p.map planP)), some (.dat (.int road)), some (.dat (.str t.1)), some (.dat (.tuple (t.2.1.map colD))), some (.dat (.tuple (t.2.2.map .str))), some (.dat (.int sp)), some (.dat odd), none, none, none, none]) rfl ?_
  -- road == 0
  refine mz_seq (mz_if ?_)
  refine mt_test (me_op (me_var (e := .dat (.int road)) (me_int ?_)))
  refine opd_eqI ⟨_, rfl, fun k => ?_, fun k => mz_next ?_⟩
  · obtain ⟨L8, hL8⟩ : ∃ L8 : List PyData, L8 = [.none, .list [], .dict [], .tuple [], .str "", .list ((p.map planP).map fun p => .tuple [p.1, p.2]), .list ((sortS (p.map (·.1))).map .str), .int 0] := ⟨_, rfl⟩
    have ok8 : ∀ d ∈ L8, BOk d := by
      intro d hd
      rw [hL8] at hd
      simp only [List.mem_cons, List.not_mem_nil, or_false] at hd
      have z0 : ∀ {d : PyData}, Sz 2 300000 d → DOk d → BOk d := fun h1 h2 => ⟨h1.sm, h2, h1.fit (by decide) (by decide)⟩
      have z1 : ∀ {d : PyData}, Sz 7 300000 d → DOk d → BOk d := fun h1 h2 => ⟨h1.sm, h2, h1.fit (by decide) (by decide)⟩
      have z2 : ∀ d : PyData, (small d && d.showable && d.leavesShort 50 && decide (d.depth ≤ 1) && decide (d.weight ≤ 140)) = true → Sz 2 300000 d := fun d q => by
        simp only [Bool.and_eq_true, decide_eq_true_eq] at q
        exact ⟨q.1.1.1.1, q.1.1.1.2, q.1.1.2, Nat.le_trans q.1.2 (by decide), Nat.le_trans q.2 (by decide)⟩
      rcases hd with rfl | rfl | rfl | rfl | rfl | rfl | rfl | rfl
      · exact z0 (z2 _ (by decide +kernel)) (dok_of (fun _ z => nomatch z))
      · exact z0 (z2 _ (by decide +kernel)) (dok_of (fun _ z => nomatch z))
      · exact z0 (z2 _ (by decide +kernel)) (fun ds e => by cases e; exact ⟨List.nodup_nil, fun _ z => by cases z⟩)
      · exact z0 (z2 _ (by decide +kernel)) (dok_of (fun _ z => nomatch z))
      · exact z0 (z2 _ (by decide +kernel)) (dok_of (fun _ z => nomatch z))
      · refine z1 (sz_lst (k := 4) (n := 6) (w := 25500) (by rw [List.length_map, List.length_map]; omega) (by decide) (by decide) fun x hx => ?_) (dok_of (fun _ z => nomatch z))
        obtain ⟨y, hy, rfl⟩ := List.mem_map.mp hx
        refine sz_tup (k := 2) (n := 5) (w := 12723) (Nat.le_refl 2) (by decide) (by decide) fun x hx => ?_
        simp only [List.mem_cons, List.not_mem_nil, or_false] at hx
        rcases hx with rfl | rfl
        · exact Sz.up (gp0.sm y hy).1 (by decide) (by decide)
        · exact Sz.up (gp0.sm y hy).2 (by decide) (by decide)
      · refine z1 (sz_lst (k := 4) (n := 6) (w := 140) (by rw [List.length_map, (sortS_perm _).length_eq, List.length_map]; omega) (by decide) (by decide) fun x hx => ?_) (dok_of (fun _ z => nomatch z))
        obtain ⟨y, hy, rfl⟩ := List.mem_map.mp hx
        obtain ⟨t', ht', rfl⟩ := List.mem_map.mp ((sortS_perm _).mem_iff.mp hy)
        exact sz_name (pOk.tb t' ht').nm (by decide) (by decide)
      · exact z0 (z2 _ (by decide +kernel)) (dok_of (fun _ z => nomatch z))
    refine mz_less (n := b0 + 1) (by omega) (mz_ret (me_op (me_lst ?_)))
    refine ma_cons (me_non (ma_cons (me_lst ?_)))
    refine ma_nil ⟨[], rfl, by show 0 ≤ 100000; decide, ?_⟩
    refine ma_cons (me_dnewK (ma_cons (me_tup ?_)))
    refine ma_nil ⟨[], rfl, by show 0 ≤ 100000; decide, ?_⟩
    refine ma_cons (me_str (ma_cons (me_listItems hul (me_var (e := .dat (.dict (p.map planP))) ⟨p.map planP, rfl, ?_⟩))))
    refine ma_cons (me_cb (ma_cons (me_var (e := .dat (.dict (p.map planP))) (ma_nil ?_))))
    refine cd_sortK (ks := p.map (·.1)) (by rw [List.map_map, List.map_map] <;> rfl) (by rw [List.length_map]; omega) ?_
    refine ma_cons (me_int ?_)
    refine ma_nil ⟨L8, by rw [hL8] <;> rfl, by show 8 ≤ 100000; decide, ?_⟩
    refine me_callV (ma_cons (me_var (e := .pen) (ma_cons (me_int (ma_nil ?_)))))
    refine cd_draw (b := b0) (by decide) (by decide) fun g5 g50 g51 => ?_
    obtain ⟨j5, rfl⟩ : ∃ j : Nat, g5 = (j : Int) := ⟨g5.toNat, by omega⟩
    have l8 : j5 < L8.length := by
      rw [hL8]
      show j5 < 8
      omega
    exact opd_ixL (atI_at rfl (List.getElem?_eq_getElem l8)) (hR _ (ok8 _ (List.getElem_mem l8)))
  -- road == 1
  refine mz_seq (mz_if ?_)
  refine mt_test (me_op (me_var (e := .dat (.int road)) (me_int ?_)))
  refine opd_eqI ⟨_, rfl, fun k1 => ?_, fun k1 => mz_next ?_⟩
  · refine mz_seq (mz_dpop (me_var (e := .dat (.str t.1)) ⟨.inr t.1, rfl, by rw [look_mem pOk.nd tm] <;> rfl, ?_⟩))
    have gp1 := gp0.drop (k := .inr t.1)
    have put : ∀ (kk : Key) (Z : Ed), Z.rt = R → keyD kk = odd → Mz K B (sDPut (tVar 2) (tVar 8) (tTup (tCons (tVar 5) (tCons (tVar 6) tNil)))) [some .pen, some (.dat (.dict (p.map planP))), some (.ownK (dropD (p.map planP) (.inr t.1))), some (.dat (.int road)), some (.dat (.str t.1)), some (.dat (.tuple (t.2.1.map colD))), some (.dat (.tuple (t.2.2.map .str))), some (.dat (.int sp)), some (.dat odd), none, none, none, none] (b0 + 2)
        { Z with nx := fun δ' b' => Mz K B (tRet (tVar 2)) δ' b' Z } := fun kk Z hZ ek => by
      refine mz_dput (ps := dropD (p.map planP) (.inr t.1)) (me_tup (ma_cons (me_var (ma_cons (me_var (ma_nil ⟨[.tuple (t.2.1.map colD), .tuple (t.2.2.map .str)], rfl, le2, me_var (e := .dat odd) ⟨kk, _, rfl, congrArg Dv.dat ek.symm, ?_, ?_⟩⟩))))))
      · have := gp1.len
        omega
      · exact fin _ 5 _ _ _ _ _ _ _ _ _ _ _ _ _ Z hZ (gp1.put (ek ▸ so) (sm_tab tok)) (by decide) (by omega)
    refine mz_seq (mz_if (mt_or (mt_B (me_isi (me_var ⟨odd, rfl, _, rfl, fun k => ?_, fun k => ⟨fun _ => ?_, fun z => nomatch z⟩⟩)))))
    · refine mt_test (me_op (me_var (e := .dat odd) (me_op (me_int (me_int ?_)))))
      refine opd_I (d := .int (10 ^ 39)) ⟨by decide, by decide, by decide⟩ (.int _) ?_
      refine opd_eqQ (d1 := odd) (d2 := .int (10 ^ 39)) (odd_eqok odd ho) ⟨_, rfl, fun k2 => ?_, fun k2 => mz_next ?_⟩
      · obtain ⟨i, rfl⟩ := odd_int odd ho k2
        exact put (.inl i) _ rfl rfl
      · exact fin _ 4 _ _ _ _ _ _ _ _ _ _ _ _ _ _ rfl gp1 (by decide) (by omega)
    · obtain ⟨x, rfl⟩ := ty_is (d := odd) (of_decide_eq_true k)
      exact put (.inr x) _ rfl rfl
  -- road == 2
  refine mz_seq (mz_if ?_)
  refine mt_test (me_op (me_var (e := .dat (.int road)) (me_int ?_)))
  refine opd_eqI ⟨_, rfl, fun k2 => ?_, fun k2 => mz_next ?_⟩
  · refine mz_seq (mz_for (mi_rng (ma_cons (me_callV (ma_cons (me_var (e := .pen) (ma_cons (me_int (ma_nil ?_)))))))))
    refine cd_draw (b := b0 + 1) (by decide) (by decide) fun g6 g60 g61 => ma_nil ⟨g6, rfl, by omega, by omega, fun i δ c => ∃ (ps : List (PyData × PyData)) (x9 : Option Dv), δ = [some .pen, some (.dat (.dict (p.map planP))), some (.ownK ps), some (.dat (.int road)), some (.dat (.str t.1)), some (.dat (.tuple (t.2.1.map colD))), some (.dat (.tuple (t.2.2.map .str))), some (.dat (.int sp)), some (.dat odd), x9, none, none, none] ∧ GP (4 + i) ps ∧ c = b0 + 1, ⟨p.map planP, none, rfl, gp0, rfl⟩, ?_, ?_⟩
    · rintro i d δ c hi ⟨ps, x9, rfl, gp, rfl⟩
      have hin := (List.getElem?_eq_some_iff.mp hi).1
      rw [intsD_len] at hin
      have ed : d = .int (i : Int) := by
        unfold intsD at hi
        rw [List.getElem?_map, List.getElem?_range hin] at hi
        have : PyData.int (0 + (i : Int)) = d := Option.some.inj hi
        rw [← this, Int.zero_add]
      subst ed
      obtain ⟨c, hc, cl0⟩ : ∃ c : Nat, atI ("abcdef" : Str).cps.toList (i : Int) = some c ∧ ∃ _k : Unit, c < 16 ^ 8 := by
        have : i = 0 ∨ i = 1 ∨ i = 2 ∨ i = 3 ∨ i = 4 := by omega
        rcases this with rfl | rfl | rfl | rfl | rfl
        · exact ⟨97, by decide +kernel, (), by decide⟩
        · exact ⟨98, by decide +kernel, (), by decide⟩
        · exact ⟨99, by decide +kernel, (), by decide⟩
        · exact ⟨100, by decide +kernel, (), by decide⟩
        · exact ⟨101, by decide +kernel, (), by decide⟩
      refine mg_name (mz_dput (ps := ps) (me_tup (ma_cons (me_var (ma_cons (me_var (ma_nil ⟨[.tuple (t.2.1.map colD), .tuple (t.2.2.map .str)], rfl, le2, ?_⟩)))))))
      refine me_op (me_str (me_op (me_str (me_var (e := .dat (.int (i : Int))) ?_))))
      refine opd_ixS (c := c) (by decide +kernel) hc ?_
      refine opd_addS (p := "t") (q := ⟨#[c]⟩) (by show 1 + 1 ≤ 100000; decide) ⟨.inr ("t" ++ ⟨#[c]⟩), _, rfl, rfl, ?_, ?_⟩
      · have := gp.len
        omega
      · refine ⟨_, _, rfl, gp.put ?_ (sm_tab tok), rfl⟩
        have cl : c < 16 ^ 8 := by
          obtain ⟨kk, hk⟩ := cl0
          exact hk
        refine sz_str (w := 140) (fun c' hc' => ?_) ?_ (by decide)
        · rw [str_app_list] at hc'
          rcases List.mem_append.mp hc' with h | h
          · have : c' ∈ [116] := h
            have : c' = 116 := by simpa using this
            rw [this]
            decide
          · have : c' = c := by simpa using h
            rw [this]
            exact cl
        · rw [str_app_len]
          show 1 + 1 ≤ 140
          decide
    · rintro δ c ⟨ps, x9, rfl, gp, rfl⟩
      refine fin _ _ _ _ _ _ _ _ _ _ _ _ _ _ _ _ rfl gp ?_ (by omega)
      rw [intsD_len]
      omega
  -- parts
  obtain ⟨C, hC⟩ : ∃ C, C = PyData.tuple (t.2.1.map colD) := ⟨_, rfl⟩
  obtain ⟨Fl, hFl⟩ : ∃ Fl, Fl = PyData.tuple (t.2.2.map .str) := ⟨_, rfl⟩
  have sC : Sm 2 C := hC ▸ sm_ct tok
  have sF : Sm 2 Fl := hFl ▸ sm_ft tok
  have sL : Sm 2 (.list (t.2.1.map colD)) := sm_lst (k := 1) (by rw [List.length_map]; exact Nat.le_trans c3 (fan3 _)) (sm_cols tok)
  have sM : Sm 2 (.list (t.2.2.map .str)) := sm_lst (k := 1) (by rw [List.length_map]; have := fan3 1; omega) (sm_flags tok)
  obtain ⟨P1, hP1⟩ : ∃ P1 : List PyData, P1 = [.tuple [C], .list [C, Fl], .tuple [C, Fl, .tuple []], .tuple [.list (t.2.1.map colD), Fl], .tuple [C, .list (t.2.2.map .str)], odd] := ⟨_, rfl⟩
  obtain ⟨P2, hP2⟩ : ∃ P2 : List PyData, P2 = [.tuple [.tuple [], Fl], .tuple [.tuple (List.replicate (3 : Int).toNat (t.2.1.map colD)).flatten, Fl], .tuple [C, .tuple (t.2.2.map .str ++ [.str "za", .str "zb", .str "zc"])], .tuple [Fl, C]] := ⟨_, rfl⟩
  refine mz_seq (mz_setF (me_lst ?_))
  refine ma_cons (me_tup (ma_cons (me_var (e := .dat (.tuple (t.2.1.map colD))) (ma_nil ⟨[C], by rw [hC] <;> rfl, le1, ?_⟩))))
  refine ma_cons (me_lst (ma_cons (me_var (e := .dat (.tuple (t.2.1.map colD))) (ma_cons (me_var (e := .dat (.tuple (t.2.2.map .str))) (ma_nil ⟨[C, Fl], by rw [hC, hFl] <;> rfl, le2, ?_⟩))))))
  refine ma_cons (me_tup (ma_cons (me_var (e := .dat (.tuple (t.2.1.map colD))) (ma_cons (me_var (e := .dat (.tuple (t.2.2.map .str))) (ma_cons (me_tup (ma_nil ⟨[], rfl, by show 0 ≤ 100000; decide, ?_⟩))))))))
  refine ma_nil ⟨[C, Fl, .tuple []], by rw [hC, hFl] <;> rfl, le3, ?_⟩
  refine ma_cons (me_tup (ma_cons (me_cb (ma_cons (me_var (e := .dat (.tuple (t.2.1.map colD))) (ma_nil ?_))))))
  refine cd_listT (ma_cons (me_var (e := .dat (.tuple (t.2.2.map .str))) (ma_nil ⟨[.list (t.2.1.map colD), Fl], by rw [hFl] <;> rfl, le2, ?_⟩)))
  refine ma_cons (me_tup (ma_cons (me_var (e := .dat (.tuple (t.2.1.map colD))) (ma_cons (me_cb (ma_cons (me_var (e := .dat (.tuple (t.2.2.map .str))) (ma_nil ?_))))))))
  refine cd_listT (ma_nil ⟨[C, .list (t.2.2.map .str)], by rw [hC] <;> rfl, le2, ?_⟩)
  refine ma_cons (me_var (e := .dat odd) (ma_nil ⟨P1, by rw [hP1] <;> rfl, by show 6 ≤ 100000; decide, ?_⟩))
  -- parts + ..
  refine mz_seq (mz_set (me_op (me_var (e := .dat (.list P1)) (me_lst ?_))))
  refine ma_cons (me_tup (ma_cons (me_tup (ma_nil ⟨[], rfl, by show 0 ≤ 100000; decide, ?_⟩))))
  refine ma_cons (me_var (e := .dat (.tuple (t.2.2.map .str))) (ma_nil ⟨[.tuple [], Fl], by rw [hFl] <;> rfl, le2, ?_⟩))
  refine ma_cons (me_tup (ma_cons (me_op (me_var (e := .dat (.tuple (t.2.1.map colD))) (me_int ?_)))))
  refine opd_repT (n := 3) (fun z => ?_) (by decide) (by decide) (by rw [List.length_map]; omega) ?_
  · have := congrArg List.length z
    rw [List.length_map] at this
    have z0 : t.2.1.length = 0 := this
    omega
  refine ma_cons (me_var (e := .dat (.tuple (t.2.2.map .str))) (ma_nil ⟨[.tuple (List.replicate (3 : Int).toNat (t.2.1.map colD)).flatten, Fl], by rw [hFl] <;> rfl, le2, ?_⟩))
  refine ma_cons (me_tup (ma_cons (me_var (e := .dat (.tuple (t.2.1.map colD))) (ma_cons (me_op (me_var (e := .dat (.tuple (t.2.2.map .str))) (me_tup ?_)))))))
  refine ma_cons (me_str (ma_cons (me_str (ma_cons (me_str ?_)))))
  refine ma_nil ⟨[.str "za", .str "zb", .str "zc"], rfl, le3, ?_⟩
  refine opd_catT (by rw [List.length_map]; show t.2.2.length + 3 ≤ 100000; omega) (ma_nil ⟨[C, .tuple (t.2.2.map .str ++ [.str "za", .str "zb", .str "zc"])], by rw [hC] <;> rfl, le2, ?_⟩)
  refine ma_cons (me_tup (ma_cons (me_var (e := .dat (.tuple (t.2.2.map .str))) (ma_cons (me_var (e := .dat (.tuple (t.2.1.map colD))) (ma_nil ⟨[Fl, C], by rw [hC, hFl] <;> rfl, le2, ?_⟩))))))
  refine ma_nil ⟨P2, by rw [hP2] <;> rfl, by show 4 ≤ 100000; decide, ?_⟩
  refine opd_cat (by rw [hP1, hP2]; show 6 + 4 ≤ 100000; decide) ?_
  -- parts.append
  obtain ⟨CT, hCT⟩ : ∃ CT, CT = Dl.cutD (t.2.1.map colD) none (some 1) := ⟨_, rfl⟩
  have CTs : ∀ x ∈ CT, Sm 1 x := fun x hx => sm_cols tok x (cutD_sub (by rw [← hCT]; exact hx))
  have CTl : CT.length ≤ 3 := by
    have := cutD_le (ds := t.2.1.map colD) (lo := none) (hi := some 1)
    rw [← hCT, List.length_map] at this
    omega
  obtain ⟨W3, hW3⟩ : ∃ W3 : List PyData, W3 = [.tuple [.str "wa", .str "k"], .tuple [.str "wb", .str "k"], .tuple [.str "wc", .str "m"]] := ⟨_, rfl⟩
  refine mz_seq (mz_app (me_tup (ma_cons (me_op (me_slT (me_var (e := .dat (.tuple (t.2.1.map colD))) ?_))))))
  refine ⟨_, rfl, mo_none (mo_some (me_int ⟨_, rfl, ?_⟩))⟩
  rw [← hCT]
  refine me_tup (ma_cons (me_tup (ma_cons (me_str (ma_cons (me_str (ma_nil ⟨[.str "wa", .str "k"], rfl, le2, ?_⟩)))))))
  refine ma_cons (me_tup (ma_cons (me_str (ma_cons (me_str (ma_nil ⟨[.str "wb", .str "k"], rfl, le2, ?_⟩))))))
  refine ma_cons (me_tup (ma_cons (me_str (ma_cons (me_str (ma_nil ⟨[.str "wc", .str "m"], rfl, le2, ?_⟩))))))
  refine ma_nil ⟨W3, by rw [hW3] <;> rfl, le3, ?_⟩
  refine opd_catT (as := CT) (bs := W3) (by rw [hW3]; show CT.length + 3 ≤ 100000; omega) ?_
  refine ma_cons (me_var (e := .dat (.tuple (t.2.2.map .str))) (ma_nil ⟨[.tuple (CT ++ W3), Fl], by rw [hFl] <;> rfl, le2, _, rfl, by rw [hP1, hP2]; show 6 + 4 < 100000; decide, ?_⟩))
  obtain ⟨PP, hPP⟩ : ∃ PP, PP = P1 ++ P2 ++ [PyData.tuple [.tuple (CT ++ W3), Fl]] := ⟨_, rfl⟩
  have PPl : PP.length = 11 := by
    rw [hPP, hP1, hP2]
    rfl
  have PPs : ∀ x ∈ PP, Sm 3 x := by
    intro x hx
    rw [hPP] at hx
    rcases List.mem_append.mp hx with hx | hx
    · rcases List.mem_append.mp hx with hx | hx
      · rw [hP1] at hx
        simp only [List.mem_cons, List.not_mem_nil, or_false] at hx
        rcases hx with rfl | rfl | rfl | rfl | rfl | rfl
        · exact sm1 sC
        · exact sm_lst (k := 2) (show 2 ≤ 3 by decide) fun x hx => by
            simp only [List.mem_cons, List.not_mem_nil, or_false] at hx
            rcases hx with rfl | rfl <;> assumption
        · exact sm3 sC sF sm_nilT
        · exact sm2 sL sF
        · exact sm2 sC sM
        · exact so
      · rw [hP2] at hx
        simp only [List.mem_cons, List.not_mem_nil, or_false] at hx
        rcases hx with rfl | rfl | rfl | rfl
        · exact sm2 sm_nilT sF
        · refine sm2 (sm_tup (k := 1) ?_ fun x hx => ?_) sF
          · show ((List.replicate 3 (t.2.1.map colD)).flatten).length ≤ 10
            rw [List.length_flatten]
            simp
            omega
          · obtain ⟨l, hl, hx⟩ := List.mem_flatten.mp hx
            rw [(List.mem_replicate.mp hl).2] at hx
            exact sm_cols tok x hx
        · refine sm2 sC (sm_tup (k := 1) ?_ fun x hx => ?_)
          · rw [List.length_append, List.length_map]
            show t.2.2.length + 3 ≤ 10
            omega
          · rcases List.mem_append.mp hx with hx | hx
            · exact sm_flags tok x hx
            · simp only [List.mem_cons, List.not_mem_nil, or_false] at hx
              rcases hx with rfl | rfl | rfl <;> exact sm_name (by decide +kernel)
        · exact sm2 sF sC
    · have e : x = PyData.tuple [.tuple (CT ++ W3), Fl] := by simpa using hx
      rw [e]
      refine sm2 (sm_tup (k := 1) ?_ fun x hx => ?_) sF
      · rw [List.length_append, hW3]
        show CT.length + 3 ≤ 10
        omega
      · rcases List.mem_append.mp hx with hx | hx
        · exact CTs x hx
        · rw [hW3] at hx
          simp only [List.mem_cons, List.not_mem_nil, or_false] at hx
          rcases hx with rfl | rfl | rfl <;> exact sm2 (sm_name (by decide +kernel)) (sm_name (by decide +kernel))
  rw [← hPP]
  refine mz_fz (i := 10) rfl (mz_env (δ' := [some .pen, some (.dat (.dict (p.map planP))), some (.ownK (p.map planP)), some (.dat (.int road)), some (.dat (.str t.1)), some (.dat (.tuple (t.2.1.map colD))), some (.dat (.tuple (t.2.2.map .str))), some (.dat (.int sp)), some (.dat odd), none, some (.dat (.list PP)), none, none]) rfl ?_)
  -- some
  obtain ⟨sp', rfl⟩ : ∃ n : Nat, sp = (n : Int) := ⟨sp.toNat, by omega⟩
  obtain ⟨c, hc⟩ : ∃ c, t.2.1[sp']? = some c := ⟨_, List.getElem?_eq_getElem (by omega)⟩
  have hsp : atI (t.2.1.map colD) (sp' : Int) = some (.tuple [.str c.1, .str c.2]) := atI_at rfl (by rw [List.getElem?_map, hc] <;> rfl)
  obtain ⟨cn1, cn2⟩ := tok.cn c (List.mem_of_getElem? hc)
  have k1s : ∀ {k : Nat}, Sm k (.str c.1) := sm_name cn1
  have k2s : ∀ {k : Nat}, Sm k (.str c.2) := sm_name cn2
  obtain ⟨CS, hCS⟩ : ∃ CS, CS = Dl.cutD [PyData.str c.1, .str c.2] none (some 1) := ⟨_, rfl⟩
  have CSs : Sm 1 (.tuple CS) := sm_tup (k := 0) (by rw [hCS]; exact Nat.le_trans cutD_le (show 2 ≤ 3 by decide)) fun x hx => by
    have := cutD_sub (hCS ▸ hx)
    simp only [List.mem_cons, List.not_mem_nil, or_false] at this
    rcases this with rfl | rfl
    · exact k1s
    · exact k2s
  obtain ⟨S6, hS6⟩ : ∃ S6 : List PyData, S6 = [.tuple CS, .list [.str c.1, .str c.2], .tuple ([.str c.1, .str c.2] ++ [.str "k"]), .tuple [odd, .str "k"], .tuple [.str c.1, odd], odd] := ⟨_, rfl⟩
  have sk : ∀ {k : Nat}, Sm k (.str "k") := sm_name (by decide +kernel)
  have S6s : ∀ x ∈ S6, Sm 1 x := by
    intro x hx
    rw [hS6] at hx
    simp only [List.mem_cons, List.not_mem_nil, or_false] at hx
    rcases hx with rfl | rfl | rfl | rfl | rfl | rfl
    · exact CSs
    · exact sm_lst (k := 0) (show 2 ≤ 3 by decide) fun x hx => by
        simp only [List.mem_cons, List.not_mem_nil, or_false] at hx
        rcases hx with rfl | rfl
        · exact k1s
        · exact k2s
    · exact sm3 (k := 0) k1s k2s sk
    · exact sm2 (k := 0) so sk
    · exact sm2 (k := 0) k1s so
    · exact so
  have S6l : S6.length = 6 := by rw [hS6] <;> rfl
  refine mz_seq (mz_setF (me_lst ?_))
  refine ma_cons (me_slT (me_op (me_var (e := .dat (.tuple (t.2.1.map colD))) (me_var (e := .dat (.int (sp' : Int))) ?_))))
  refine opd_ixT hsp ⟨_, rfl, mo_none (mo_some (me_int ⟨_, rfl, ?_⟩))⟩
  rw [← hCS]
  refine ma_cons (me_cb (ma_cons (me_op (me_var (e := .dat (.tuple (t.2.1.map colD))) (me_var (e := .dat (.int (sp' : Int))) ?_)))))
  refine opd_ixT hsp (ma_nil ?_)
  refine cd_listT ?_
  refine ma_cons (me_op (me_op (me_var (e := .dat (.tuple (t.2.1.map colD))) (me_var (e := .dat (.int (sp' : Int))) ?_))))
  refine opd_ixT hsp (me_tup (ma_cons (me_str (ma_nil ⟨[.str "k"], rfl, le1, ?_⟩))))
  refine opd_catT (as := [.str c.1, .str c.2]) (bs := [.str "k"]) (by show 2 + 1 ≤ 100000; decide) ?_
  refine ma_cons (me_tup (ma_cons (me_var (e := .dat odd) (ma_cons (me_str (ma_nil ⟨[odd, .str "k"], rfl, le2, ?_⟩))))))
  refine ma_cons (me_tup (ma_cons (me_op (me_op (me_var (e := .dat (.tuple (t.2.1.map colD))) (me_var (e := .dat (.int (sp' : Int))) ?_))))))
  refine opd_ixT hsp (me_int ?_)
  refine opd_ixT (ds := [.str c.1, .str c.2]) (d := .str c.1) atI0 (ma_cons (me_var (e := .dat odd) (ma_nil ⟨[.str c.1, odd], rfl, le2, ?_⟩)))
  refine ma_cons (me_var (e := .dat odd) (ma_nil ⟨S6, by rw [hS6] <;> rfl, by show 6 ≤ 100000; decide, ?_⟩))
  -- the last choice
  have last : ∀ (d : PyData) (cc : Nat) (x9 x12 : Option Dv) (Z : Ed), Z.rt = R → Sm 3 d → b0 ≤ cc → Mz K B (tRet (tVar 2)) [some .pen, some (.dat (.dict (p.map planP))), some (.ownK (putD (p.map planP) (.inr t.1) d)), some (.dat (.int road)), some (.dat (.str t.1)), some (.dat (.tuple (t.2.1.map colD))), some (.dat (.tuple (t.2.2.map .str))), some (.dat (.int (sp' : Int))), some (.dat odd), x9, some (.dat (.list PP)), some (.dat (.list S6)), x12] cc Z :=
    fun d cc x9 x12 Z hZ sd hcc => fin _ 5 _ _ _ _ _ _ _ _ _ _ _ _ _ Z hZ (gp0.put (sm_name tok.nm) sd) (by decide) hcc
  have plen : (p.map planP).length < 100000 := by rw [List.length_map]; omega
  refine mz_env (δ' := [some .pen, some (.dat (.dict (p.map planP))), some (.ownK (p.map planP)), some (.dat (.int road)), some (.dat (.str t.1)), some (.dat (.tuple (t.2.1.map colD))), some (.dat (.tuple (t.2.2.map .str))), some (.dat (.int (sp' : Int))), some (.dat odd), none, some (.dat (.list PP)), some (.dat (.list S6)), none]) rfl ?_
  refine mz_seq (mz_if ?_)
  refine mt_test (me_op (me_var (e := .dat (.int road)) (me_int ?_)))
  refine opd_I0 (d := .bool (decide (road < 6))) (.bl _) ⟨_, rfl, fun q1 => ?_, fun q1 => ?_⟩
  · refine mz_dput (ps := p.map planP) (me_op (me_var (e := .dat (.list PP)) ?_))
    refine me_callV (ma_cons (me_var (e := .pen) (ma_cons (me_cb (ma_cons (me_var (e := .dat (.list PP)) (ma_nil ?_)))))))
    refine cd_lenL (ma_nil ?_)
    refine cd_draw (b := b0 + 1) (by rw [PPl]; decide) (by rw [PPl]; decide) fun g7 g70 g71 => ?_
    rw [PPl] at g71
    obtain ⟨j7, rfl⟩ : ∃ j : Nat, g7 = (j : Int) := ⟨g7.toNat, by omega⟩
    have l7 : j7 < PP.length := by omega
    refine opd_ixL (atI_at rfl (List.getElem?_eq_getElem l7)) (me_var (e := .dat (.str t.1)) ⟨.inr t.1, _, rfl, rfl, plen, ?_⟩)
    exact last _ _ _ _ _ rfl (PPs _ (List.getElem_mem l7)) (by omega)
  refine mz_if ?_
  refine mt_test (me_op (me_var (e := .dat (.int road)) (me_int ?_)))
  refine opd_I0 (d := .bool (decide (road < 8))) (.bl _) ⟨_, rfl, fun q2 => ?_, fun q2 => ?_⟩
  · refine mz_dput (ps := p.map planP) (me_tup (ma_cons (me_op (me_op (me_slT (me_var (e := .dat (.tuple (t.2.1.map colD))) ?_))))))
    refine ⟨_, rfl, mo_none (mo_some (me_var (e := .dat (.int (sp' : Int))) ⟨_, rfl, ?_⟩))⟩
    obtain ⟨A1, hA1⟩ : ∃ A1, A1 = Dl.cutD (t.2.1.map colD) none (some (sp' : Int)) := ⟨_, rfl⟩
    rw [← hA1]
    have A1l : A1.length ≤ 3 := by
      have := cutD_le (ds := t.2.1.map colD) (lo := none) (hi := some (sp' : Int))
      rw [← hA1, List.length_map] at this
      omega
    refine me_tup (ma_cons (me_op (me_var (e := .dat (.list S6)) ?_)))
    refine me_callV (ma_cons (me_var (e := .pen) (ma_cons (me_int (ma_nil ?_)))))
    refine cd_draw (b := b0 + 1) (by decide) (by decide) fun g8 g80 g81 => ?_
    obtain ⟨j8, rfl⟩ : ∃ j : Nat, g8 = (j : Int) := ⟨g8.toNat, by omega⟩
    have l8 : j8 < S6.length := by omega
    refine opd_ixL (atI_at rfl (List.getElem?_eq_getElem l8)) (ma_nil ⟨[S6[j8]], rfl, le1, ?_⟩)
    refine opd_catT (as := A1) (bs := [S6[j8]]) (by show A1.length + 1 ≤ 100000; omega) ?_
    refine me_slT (me_var (e := .dat (.tuple (t.2.1.map colD))) ?_)
    refine ⟨_, rfl, mo_some (me_op (me_var (e := .dat (.int (sp' : Int))) (me_int ?_)))⟩
    refine opd_I0 (d := .int ((sp' : Int) + 1)) (.int _) ⟨_, rfl, mo_none ?_⟩
    obtain ⟨A2, hA2⟩ : ∃ A2, A2 = Dl.cutD (t.2.1.map colD) (some ((sp' : Int) + 1)) none := ⟨_, rfl⟩
    rw [← hA2]
    have A2l : A2.length ≤ 3 := by
      have := cutD_le (ds := t.2.1.map colD) (lo := some ((sp' : Int) + 1)) (hi := none)
      rw [← hA2, List.length_map] at this
      omega
    refine opd_catT (as := A1 ++ [S6[j8]]) (bs := A2) (by rw [List.length_append, List.length_singleton]; omega) ?_
    refine ma_cons (me_var (e := .dat (.tuple (t.2.2.map .str))) (ma_nil ⟨[.tuple (A1 ++ [S6[j8]] ++ A2), Fl], by rw [hFl] <;> rfl, le2, me_var (e := .dat (.str t.1)) ⟨.inr t.1, _, rfl, rfl, plen, ?_⟩⟩))
    refine last (.tuple [.tuple (A1 ++ [S6[j8]] ++ A2), Fl]) (b0 + 1) none none _ rfl (sm2 (sm_tup (k := 1) (by rw [List.length_append, List.length_append, List.length_singleton]; show _ ≤ 10; omega) fun x hx => ?_) sF) (by omega)
    rcases List.mem_append.mp hx with hx | hx
    · rcases List.mem_append.mp hx with hx | hx
      · exact sm_cols tok x (cutD_sub (hA1 ▸ hx))
      · have : x = S6[j8] := by simpa using hx
        rw [this]
        exact S6s _ (List.getElem_mem l8)
    · exact sm_cols tok x (cutD_sub (hA2 ▸ hx))
  refine mz_if ?_
  refine mt_test (me_op (me_var (e := .dat (.int road)) (me_int ?_)))
  refine opd_eqI ⟨_, rfl, fun q3 => ?_, fun q3 => ?_⟩
  · refine mz_seq (mz_setF (me_callV (ma_cons (me_var (e := .pen) (ma_cons (me_op (me_cb (ma_cons (me_var (e := .dat (.tuple (t.2.2.map .str))) (ma_nil ?_))))))))))
    refine cd_lenT (me_int ?_)
    refine opd_I0 (d := .int ((((t.2.2.map PyData.str).length : Nat) : Int) + 1)) (.int _) (ma_nil ?_)
    refine cd_draw (b := b0 + 1) (by omega) (by rw [List.length_map]; omega) fun g9 g90 g91 => ?_
    refine mz_dput (ps := p.map planP) (me_tup (ma_cons (me_var (e := .dat (.tuple (t.2.1.map colD))) (ma_cons (me_op (me_op (me_slT (me_var (e := .dat (.tuple (t.2.2.map .str))) ?_))))))))
    refine ⟨_, rfl, mo_none (mo_some (me_var (e := .dat (.int g9)) ⟨_, rfl, ?_⟩))⟩
    obtain ⟨A1, hA1⟩ : ∃ A1, A1 = Dl.cutD (t.2.2.map PyData.str) none (some g9) := ⟨_, rfl⟩
    rw [← hA1]
    have A1l : A1.length ≤ 2 := by
      have := cutD_le (ds := t.2.2.map PyData.str) (lo := none) (hi := some g9)
      rw [← hA1, List.length_map] at this
      omega
    refine me_tup (ma_cons (me_var (e := .dat odd) (ma_nil ⟨[odd], rfl, le1, ?_⟩)))
    refine opd_catT (as := A1) (bs := [odd]) (by show A1.length + 1 ≤ 100000; omega) ?_
    refine me_slT (me_var (e := .dat (.tuple (t.2.2.map .str))) ?_)
    refine ⟨_, rfl, mo_some (me_var (e := .dat (.int g9)) ⟨_, rfl, mo_none ?_⟩)⟩
    obtain ⟨A2, hA2⟩ : ∃ A2, A2 = Dl.cutD (t.2.2.map PyData.str) (some g9) none := ⟨_, rfl⟩
    rw [← hA2]
    have A2l : A2.length ≤ 2 := by
      have := cutD_le (ds := t.2.2.map PyData.str) (lo := some g9) (hi := none)
      rw [← hA2, List.length_map] at this
      omega
    refine opd_catT (as := A1 ++ [odd]) (bs := A2) (by rw [List.length_append, List.length_singleton]; omega) (ma_nil ⟨[C, .tuple (A1 ++ [odd] ++ A2)], by rw [hC] <;> rfl, le2, me_var (e := .dat (.str t.1)) ⟨.inr t.1, _, rfl, rfl, plen, ?_⟩⟩)
    refine last (.tuple [C, .tuple (A1 ++ [odd] ++ A2)]) (b0 + 1) none (some (.dat (.int g9))) _ rfl (sm2 sC (sm_tup (k := 1) (by rw [List.length_append, List.length_append, List.length_singleton]; show _ ≤ 10; omega) fun x hx => ?_)) (by omega)
    rcases List.mem_append.mp hx with hx | hx
    · rcases List.mem_append.mp hx with hx | hx
      · exact sm_flags tok x (cutD_sub (hA1 ▸ hx))
      · have : x = odd := by simpa using hx
        rw [this]
        exact so
    · exact sm_flags tok x (cutD_sub (hA2 ▸ hx))
  obtain ⟨c0, hc0⟩ : ∃ c0, t.2.1[0]? = some c0 := ⟨_, List.getElem?_eq_getElem (by omega)⟩
  have hs0 : atI (t.2.1.map colD) 0 = some (.tuple [.str c0.1, .str c0.2]) := atI_at (j := 0) rfl (by rw [List.getElem?_map, hc0] <;> rfl)
  have k0s : ∀ {k : Nat}, Sm k (.str c0.1) := sm_name (tok.cn c0 (List.mem_of_getElem? hc0)).1
  obtain ⟨A1, hA1⟩ : ∃ A1, A1 = Dl.cutD (t.2.2.map PyData.str) none (some 1) := ⟨_, rfl⟩
  have A1l : A1.length ≤ 2 := by
    have := cutD_le (ds := t.2.2.map PyData.str) (lo := none) (hi := some 1)
    rw [← hA1, List.length_map] at this
    omega
  refine mz_seq (mz_setF (me_slL (me_slL (me_op (me_lst ?_)))))
  refine ma_cons (me_op (me_op (me_var (e := .dat (.tuple (t.2.1.map colD))) (me_int ?_))))
  refine opd_ixT hs0 (me_int ?_)
  refine opd_ixT (ds := [.str c0.1, .str c0.2]) (d := .str c0.1) atI0 (ma_cons (me_str (ma_nil ⟨[.str c0.1, .str "k"], rfl, le2, ?_⟩)))
  refine me_cb (ma_cons (me_slT (me_var (e := .dat (.tuple (t.2.2.map .str))) ?_)))
  refine ⟨_, rfl, mo_none (mo_some (me_int ⟨_, rfl, ?_⟩))⟩
  rw [← hA1]
  refine ma_nil (cd_listT ?_)
  refine opd_cat (as := [.str c0.1, .str "k"]) (bs := A1) (by show 2 + A1.length ≤ 100000; omega) ⟨_, rfl, mo_some (me_callV (ma_cons (me_var (e := .pen) (ma_cons (me_int (ma_nil ?_))))))⟩
  refine cd_draw (b := b0 + 1) (by decide) (by decide) fun g9 g90 g91 => ⟨_, rfl, mo_none ⟨_, rfl, mo_none (mo_some (me_int ⟨_, rfl, ?_⟩))⟩⟩
  obtain ⟨M, hM⟩ : ∃ M, M = Dl.cutD (Dl.cutD ([PyData.str c0.1, .str "k"] ++ A1) (some g9) none) none (some 1) := ⟨_, rfl⟩
  rw [← hM]
  have Ml : M.length ≤ 4 := by
    have m1 := cutD_le (ds := Dl.cutD ([PyData.str c0.1, .str "k"] ++ A1) (some g9) none) (lo := none) (hi := some 1)
    have m2 := cutD_le (ds := [PyData.str c0.1, .str "k"] ++ A1) (lo := some g9) (hi := none)
    have m3 : ([PyData.str c0.1, .str "k"] ++ A1).length = 2 + A1.length := by
      rw [List.length_append] <;> rfl
    rw [← hM] at m1
    omega
  have Ms : ∀ x ∈ M, Sm 1 x := fun x hx => by
    have := cutD_sub (cutD_sub (hM ▸ hx))
    rcases List.mem_append.mp this with h | h
    · simp only [List.mem_cons, List.not_mem_nil, or_false] at h
      rcases h with rfl | rfl
      · exact k0s
      · exact sk
    · exact sm_flags tok x (cutD_sub (hA1 ▸ h))
  refine mz_dput (ps := p.map planP) (me_tup (ma_cons (me_var (e := .dat (.tuple (t.2.1.map colD))) (ma_cons (me_op (me_var (e := .dat (.tuple (t.2.2.map .str))) ?_))))))
  refine me_cb (ma_cons (me_var (e := .dat (.list M)) (ma_nil ?_)))
  refine cd_tupL ?_
  refine opd_catT (as := t.2.2.map .str) (bs := M) (by rw [List.length_map]; omega) (ma_nil ⟨[C, .tuple (t.2.2.map .str ++ M)], by rw [hC] <;> rfl, le2, me_var (e := .dat (.str t.1)) ⟨.inr t.1, _, rfl, rfl, plen, ?_⟩⟩)
  have sfin : Sm 3 (.tuple [C, .tuple (t.2.2.map .str ++ M)]) := sm2 sC (sm_tup (k := 1) (by rw [List.length_append, List.length_map]; show _ ≤ 10; omega) fun x hx => ?_)
  · exact last (.tuple [C, .tuple (t.2.2.map .str ++ M)]) (b0 + 1) (some (.dat (.list M))) none { nx := fun _ b' => R (.dat .none) b', rt := R } rfl sfin (by omega)
  rcases List.mem_append.mp hx with hx | hx
  · exact sm_flags tok x hx
  · exact Ms x hx
end
end K01
set_option Elab.async false
set_option linter.all false
set_option maxRecDepth 100000
set_option maxHeartbeats 4000000
/-! the data level: own == and != of schemas -/
namespace K01
open PySem PySem.Spec PyProof.Rows L2 Gd Evl Dl
section
variable {K : PySem.W.Frag} {B : Base} {C : Addr} {S : DSpec} {y : Dv} {X : XK} {R : Dv → Prop} {p : List Tab}
theorem own_run {F H : Hp} {b : Nat} (s : Sr K B b F H) {vx vy : V} (hx : Df K B F vx (.mp (IsSch K C p))) (hy : Df K B F vy y) (ok : (∃ q, y = .mp (IsSch K C q)) ∨ ∃ d, y = .dat d)
    (hS : ∀ b, S [.mp (IsSch K C p), y] b (fun e b' => (∃ k, e = .dat (.bool k) ∧ R (.dat (.bool k))) ∧ b' = b) fun _ _ => False) {Q : Bool → Hp → Prop}
    (k : ∀ c F' H', R (.dat (.bool c)) → Sr K B b F' H' → Go B F H F' H' → Q c H') :
    ∃ a dx fs, vx = .ref a ∧ H a = some (.ins C dx fs) ∧ RightO K C H vy ∧ spD K 2 false [] S [vx, vy] H (fun v H' => ∃ c, v = .bl c ∧ Q c H') X := by
  obtain ⟨a, dx, tb, ch, sz, kd, ca, fa, rfl, hF, _⟩ := mp_at (K := K) (B := B) hx
  refine ⟨a, dx, _, rfl, s.exact hF (fun z => z), ?_, ?_⟩
  · rcases ok with ⟨q, rfl⟩ | ⟨d, rfl⟩
    · obtain ⟨a2, dx2, tb2, ch2, sz2, kd2, ca2, fa2, rfl, hF2, _⟩ := mp_at (K := K) (B := B) hy
      exact .inl ⟨a2, dx2, _, rfl, s.exact hF2 (fun z => z)⟩
    · exact .inr ⟨d, s.dq (show Dq K F vy d from hy)⟩
  · refine callD (n := 2) (ul := false) (XE := X) (T := []) (RX := fun _ _ => False) (.inl rfl) (fun _ _ _ _ z => z.elim) rfl (fun z => Bool.noConfusion z) (hS b) F H s _ (.cons hx (.cons hy .nil)) _ fun v e b' F' H' ⟨⟨c, e1, r⟩, e2⟩ s' g' d' _ => ?_
    subst e1 e2
    cases (show Dq K F' v (.bool c) from d')
    exact ⟨c, rfl, k c F' H' r s' g'⟩
/-- schema == y -/
theorem opd_ownEq (ok : (∃ q, y = .mp (IsSch K C q)) ∨ ∃ d, y = .dat d) (hS : ∀ b, S [.mp (IsSch K C p), y] b (fun e b' => (∃ k, e = .dat (.bool k) ∧ R (.dat (.bool k))) ∧ b' = b) fun _ _ => False) :
    OpD K B (rOwnEq K C (spD K 2 false [] S) X) (.mp (IsSch K C p)) y R := fun b F H s vx vy hx hy Q q =>
  own_run (Q := fun c H' => Q (.bl c) H') s hx hy ok hS fun c F' H' r s' g' => q _ _ F' H' r s' g' (.bl c) (Nw.no rfl)
/-- schema != y -/
theorem opd_ownNe {R' : Dv → Prop} (ok : (∃ q, y = .mp (IsSch K C q)) ∨ ∃ d, y = .dat d) (hS : ∀ b, S [.mp (IsSch K C p), y] b (fun e b' => (∃ k, e = .dat (.bool k) ∧ R (.dat (.bool k))) ∧ b' = b) fun _ _ => False)
    (hn : ∀ k, R (.dat (.bool k)) → R' (.dat (.bool !k))) : OpD K B (rOwnNe K C (spD K 2 false [] S) X) (.mp (IsSch K C p)) y R' := fun b F H s vx vy hx hy Q q =>
  own_run (Q := fun c H' => Q (.bl !c) H') s hx hy ok hS fun c F' H' r s' g' => q _ _ F' H' (hn c r) s' g' (.bl !c) (Nw.no rfl)
end
/-! == of tables as dicts, in any order -/
theorem atK_perm {ps qs : List (Key × PyData)} (e : ps.Perm qs) (nd : (ps.map (·.1)).Nodup) (k : Key) : atK ps k = atK qs k := by
  have mem : ∀ {ps : List (Key × PyData)}, (ps.map (·.1)).Nodup → ∀ d, atK ps k = some d ↔ (k, d) ∈ ps := by
    intro ps
    induction ps with
    | nil =>
      intro _ d
      constructor
      · intro h
        cases h
      · intro h
        cases h
    | cons p r ih =>
      intro nd d
      rw [List.map_cons, List.nodup_cons] at nd
      unfold atK
      rw [List.find?_cons]
      by_cases h : p.1 = k
      · rw [decide_eq_true h]
        constructor
        · intro q
          have : p.2 = d := Option.some.inj q
          rw [← h, ← this]
          exact List.mem_cons_self
        · intro q
          rcases List.mem_cons.mp q with q | q
          · exact congrArg some (congrArg Prod.snd q.symm)
          · exact absurd (h ▸ List.mem_map_of_mem (f := fun x : Key × PyData => x.1) q) nd.1
      · rw [decide_eq_false h]
        refine (ih nd.2 d).trans ⟨fun q => List.mem_cons_of_mem _ q, fun q => ?_⟩
        rcases List.mem_cons.mp q with q | q
        · exact absurd (congrArg Prod.fst q.symm) h
        · exact q
  have nd2 : (qs.map (·.1)).Nodup := (e.map _).nodup_iff.mp nd
  cases h : atK ps k with
  | none =>
    cases h2 : atK qs k with
    | none => rfl
    | some d =>
      have := (mem nd d).mpr (e.mem_iff.mpr ((mem nd2 d).mp h2))
      rw [h] at this
      cases this
  | some d => exact ((mem nd2 d).mpr (e.mem_iff.mp ((mem nd d).mp h))).symm
theorem eqK_perm {as as' bs bs' : List (Key × PyData)} (e1 : as'.Perm as) (e2 : bs'.Perm bs) (nd : (bs'.map (·.1)).Nodup) : eqK as' bs' = eqK as bs := by
  unfold eqK
  rw [e1.length_eq, e2.length_eq]
  congr 1
  simp only [atK_perm e2 nd]
  exact e1.all_eq
theorem eqK_sort {p q : List Tab} (hq : PlanOk q) : eqK ((sortP p).map planK) ((sortP q).map planK) = eqK (p.map planK) (q.map planK) :=
  eqK_perm ((sortP_perm p).map _) ((sortP_perm q).map _) (by
    have e : ((sortP q).map planK).map (·.1) = ((sortP q).map (·.1)).map Sum.inr := by rw [List.map_map, List.map_map] <;> rfl
    rw [e]
    exact List.Pairwise.map _ (fun a b h z => h (Sum.inr.inj z)) (hq.perm (sortP_perm q)).nd)
/-- the tables are laid as they are -/
theorem strOk_name {x : Str} (h : isNameS x = true) : (PyData.str x).canLay0 = true := by
  unfold isNameS at h
  simp only [Bool.and_eq_true] at h
  have all := List.all_eq_true.mp h.2
  show PyData.strOk x = true
  unfold PyData.strOk
  rw [Array.all_eq_true']
  intro c hc
  have := all c (by simpa using hc)
  unfold low at this
  simp only [Bool.and_eq_true, decide_eq_true_eq] at this ⊢
  omega
theorem canLayAll_of : ∀ {ds : List PyData}, (∀ d ∈ ds, d.canLay0 = true) → PyData.canLayAll0 ds = true
  | [], _ => rfl
  | d :: r, h => by
    rw [PyData.canLayAll0, h d List.mem_cons_self, canLayAll_of fun x hx => h x (List.mem_cons_of_mem _ hx)]
    rfl
theorem depthAll_le {n : Nat} : ∀ {ds : List PyData}, (∀ d ∈ ds, d.depth ≤ n) → PyData.depthAll ds ≤ n
  | [], _ => by
    rw [PyData.depthAll]
    exact Nat.zero_le _
  | d :: r, h => by
    have h1 := h d List.mem_cons_self
    have h2 := depthAll_le (ds := r) fun x hx => h x (List.mem_cons_of_mem _ hx)
    rw [PyData.depthAll]
    omega
theorem lay_tup {ds : List PyData} {n : Nat} (h : ∀ d ∈ ds, d.canLay0 = true ∧ d.depth ≤ n) : (PyData.tuple ds).canLay0 = true ∧ (PyData.tuple ds).depth ≤ n + 1 := by
  have h1 := canLayAll_of fun d hd => (h d hd).1
  have h2 := depthAll_le fun d hd => (h d hd).2
  refine ⟨h1, ?_⟩
  rw [PyData.depth]
  omega
theorem lay_str {x : Str} (h : isNameS x = true) : (PyData.str x).canLay0 = true ∧ (PyData.str x).depth ≤ 0 := ⟨strOk_name h, by simp [PyData.depth]⟩
theorem shaped_tab {t : Tab} (h : TabOk t) : SeqAt.shaped (tabD t.2) = true := by
  have c : ∀ d ∈ t.2.1.map colD, d.canLay0 = true ∧ d.depth ≤ 1 := fun d hd => by
    obtain ⟨c, hc, rfl⟩ := List.mem_map.mp hd
    obtain ⟨a, b⟩ := h.cn c hc
    refine lay_tup fun x hx => ?_
    simp only [List.mem_cons, List.not_mem_nil, or_false] at hx
    rcases hx with rfl | rfl
    · exact lay_str a
    · exact lay_str b
  have f : ∀ d ∈ t.2.2.map PyData.str, d.canLay0 = true ∧ d.depth ≤ 1 := fun d hd => by
    obtain ⟨f, hf, rfl⟩ := List.mem_map.mp hd
    obtain ⟨a, b⟩ := lay_str (h.fn f hf)
    exact ⟨a, by omega⟩
  obtain ⟨a, b⟩ := lay_tup (n := 2) (ds := [.tuple (t.2.1.map colD), .tuple (t.2.2.map .str)]) fun x hx => by
    simp only [List.mem_cons, List.not_mem_nil, or_false] at hx
    rcases hx with rfl | rfl
    · exact lay_tup c
    · exact lay_tup f
  show ((tabD t.2).canLay0 && decide ((tabD t.2).depth ≤ 64)) = true
  rw [show (tabD t.2).canLay0 = true from a, decide_eq_true (show (tabD t.2).depth ≤ 64 from Nat.le_trans b (by decide))]
  rfl
/-- == of two schemas of tables, of a schema and data -/
theorem eqS_sch {K : PySem.W.Frag} {C : Addr} {p q : List Tab} (hp : PlanOk p) (hq : PlanOk q) {R : Dv → Nat → Prop} {RX : Addr → Nat → Prop} {b : Nat} (r : R (.dat (.bool (eqK (p.map planK) (q.map planK)))) b) : spEqS K C [.mp (IsSch K C (sortP p)), .mp (IsSch K C (sortP q))] b R RX :=
  .inl ⟨sortP p, sortP q, rfl, fun t ht => shaped_tab ((hp.perm (sortP_perm p)).tb t ht), fun t ht => shaped_tab ((hq.perm (sortP_perm q)).tb t ht), by rw [eqK_sort hq]; exact r⟩
/-- repr of data -/
theorem cd_repr {K : PySem.W.Frag} {B : Base} {d : PyData} {R : Dv → Nat → Prop} {b : Nat} (f : Fit d) (k : R (.dat (.str d.shown)) b) : CallD K B (rRepr K) [.dat d] b R := cd_pure (d := .str d.shown) (fun F H vs Q ⟨b, s⟩ hs q => by
  obtain ⟨v, rfl, h⟩ := df1 hs
  exact ⟨v, d, rfl, s.dq (show Dq K F v d from h), f, q _ (.str _)⟩) k
end K01
set_option Elab.async false
set_option linter.all false
set_option maxRecDepth 100000
set_option maxHeartbeats 4000000
/-! tuples of texts sorted: any order gives the same; names shown -/
namespace K01
open PySem PySem.Spec PyProof.Rows L2 Gd Evl Dl
abbrev cpl (x : Str) : List Nat := x.cps.toList
open PySem.W in
theorem lt_strs : ∀ xs ys : List Str, rowLt (xs.map .str) (ys.map .str) = decide (xs.map cpl < ys.map cpl)
  | [], [] => by
    have z : rowLt [] [] = false := lex_irrefl _
    rw [List.map_nil, List.map_nil, z]
    simp
  | [], y :: ys => by
    have z : rowLt [] (.str y :: ys.map .str) = true := by
      rw [rowLt, toks_all_cons]; simp only [keyToksAll]; rw [lex_diff (O := itemOrd) (by simp)]; rfl
    rw [List.map_nil, List.map_cons, z]
    simp
  | x :: xs, [] => by
    have z : rowLt (.str x :: xs.map .str) [] = false := by
      rw [rowLt, toks_all_cons]; simp only [keyToksAll]; rw [lex_diff (O := itemOrd) (by simp)]; rfl
    rw [List.map_nil, List.map_cons, z]
    simp
  | x :: xs, y :: ys => by
    have z : rowLt (.str x :: xs.map .str) (.str y :: ys.map .str) = if x = y then rowLt (xs.map .str) (ys.map .str) else decide (cpl x < cpl y) := by
      rw [rowLt, dataLt_cons (by simp [alike]), dataLt_str]; simp only [PyData.eqv, beq_iff_eq]; rfl
    rw [List.map_cons, List.map_cons, z]
    by_cases h : x = y
    · subst h
      rw [if_pos rfl, lt_strs xs ys]
      simp [List.cons_lt_cons_iff]
    · have h2 : cpl x ≠ cpl y := fun q => h (str_toList q)
      rw [if_neg h]
      simp [List.cons_lt_cons_iff, h2]
def leT (a b : List Str) : Bool := decide (a.map cpl ≤ b.map cpl)
theorem leT_eq : PySem.W.dataLe false tT = leT := by
  funext a b
  rw [PySem.W.dataLe_eq]
  show (!PySem.W.dataLt (tT b) (tT a)) = leT a b
  unfold tT
  rw [PySem.W.dataLt_tuple]
  show (!PySem.W.rowLt (b.map .str) (a.map .str)) = leT a b
  rw [lt_strs]
  unfold leT
  by_cases h : b.map cpl < a.map cpl
  · have : ¬ a.map cpl ≤ b.map cpl := fun q => List.not_lt.mpr q h
    rw [decide_eq_true h, decide_eq_false this]
    rfl
  · rw [decide_eq_false h, decide_eq_true (List.not_lt.mp h)]
    rfl
theorem cpl_inj : ∀ {a b : List Str}, a.map cpl = b.map cpl → a = b
  | [], [], _ => rfl
  | [], _ :: _, h => by cases h
  | _ :: _, [], h => by cases h
  | x :: a, y :: b, h => by
    rw [List.map_cons, List.map_cons] at h
    injection h with h1 h2
    rw [str_toList h1, cpl_inj h2]
theorem sortT_eq {xs ys : List (List Str)} (p : xs.Perm ys) : sortT xs = sortT ys := by
  unfold sortT
  rw [leT_eq]
  have tr : ∀ a b c : List Str, leT a b = true → leT b c = true → leT a c = true := fun a b c h1 h2 => decide_eq_true (List.le_trans (of_decide_eq_true h1) (of_decide_eq_true h2))
  have to : ∀ a b : List Str, (leT a b || leT b a) = true := fun a b => by
    rw [Bool.or_eq_true]
    exact (List.le_total (a.map cpl) (b.map cpl)).imp decide_eq_true decide_eq_true
  have an : ∀ a b : List Str, leT a b = true → leT b a = true → a = b := fun a b h1 h2 => cpl_inj (List.le_antisymm (of_decide_eq_true h1) (of_decide_eq_true h2))
  exact List.Perm.eq_of_pairwise (fun a b _ _ => an a b) (List.pairwise_mergeSort tr to xs) (List.pairwise_mergeSort tr to ys) (((List.mergeSort_perm xs leT).trans p).trans (List.mergeSort_perm ys leT).symm)
/-! names shown -/
theorem low_char {c : Nat} (h : low c = true) : PySem.Builtin.Str.reprChar 39 c = [c] := by
  unfold low at h
  simp only [Bool.and_eq_true, decide_eq_true_eq] at h
  have all : ∀ k : Fin 26, PySem.Builtin.Str.reprChar 39 (97 + k.val) = [97 + k.val] := by decide +kernel
  have := all ⟨c - 97, by omega⟩
  have e : 97 + (c - 97) = c := by omega
  rw [show 97 + (⟨c - 97, by omega⟩ : Fin 26).val = c from e] at this
  exact this
theorem low_fold : ∀ (l : List Nat) (acc : Array Nat), l.all low = true → l.foldl (fun out c => out ++ (PySem.Builtin.Str.reprChar 39 c).toArray) acc = acc ++ l.toArray
  | [], acc, _ => by simp
  | c :: r, acc, h => by
    rw [List.all_cons, Bool.and_eq_true] at h
    rw [List.foldl_cons, low_char h.1, low_fold r _ h.2, Array.append_assoc]
    simp
theorem repr_name {x : Str} (h : isNameS x = true) : (reprText x).cps.toList = 39 :: (x.cps.toList ++ [39]) := by
  have hl := (name_low h).1
  have q : PySem.reprQuote x = 39 := by
    have : x.cps.contains 39 = false := by
      rw [Bool.eq_false_iff]
      intro z
      have m : 39 ∈ x.cps.toList := by simpa using z
      have := List.all_eq_true.mp hl _ m
      exact absurd this (by decide)
    unfold PySem.reprQuote
    rw [this]
    rfl
  unfold reprText
  rw [q]
  show ((x.cps.foldl (fun out c => out ++ (PySem.Builtin.Str.reprChar 39 c).toArray) #[39]).push 39).toList = _
  rw [← Array.foldl_toList, low_fold _ _ hl]
  simp
theorem repr_inj {x y : Str} (h : isNameS x = true) (g : isNameS y = true) (e : reprText x = reprText y) : x = y := by
  have a := repr_name h
  rw [e, repr_name g] at a
  have := (List.cons.inj a).2
  exact (str_toList (List.append_cancel_right this)).symm
/-- the kinds asked for -/
def kinds10 : List PyData := [.str "k", .str "land", .str "m", .str "none", .none, .int 0, .tuple [], .list [], .dict [], .bool true]
theorem kinds_eq {x : Str} (h : isNameS x = true) : ∀ d ∈ kinds10, decide (reprText x = d.shown) = PyData.eqv (.str x) d := by
  have st : ∀ y : Str, isNameS y = true → decide (reprText x = (PyData.str y).shown) = PyData.eqv (.str x) (.str y) := fun y g => by
    have e : PyData.eqv (.str x) (.str y) = decide (x = y) := by
      simp only [PyData.eqv]
      by_cases q : x = y
      · rw [decide_eq_true q, q, beq_self_eq_true]
      · rw [decide_eq_false q, beq_eq_false_iff_ne]
        exact q
    rw [e, PyData.shown_str]
    exact decide_eq_decide.mpr ⟨repr_inj h g, fun q => by rw [q]⟩
  have no : ∀ d : PyData, d.shown.cps.toList.head? ≠ some 39 → PyData.eqv (.str x) d = false → decide (reprText x = d.shown) = PyData.eqv (.str x) d := fun d h1 h2 => by
    rw [h2]
    refine decide_eq_false fun q => h1 ?_
    rw [← q, repr_name h]
    rfl
  intro d hd
  simp only [kinds10, List.mem_cons, List.not_mem_nil, or_false] at hd
  rcases hd with rfl | rfl | rfl | rfl | rfl | rfl | rfl | rfl | rfl | rfl
  · exact st _ (by decide +kernel)
  · exact st _ (by decide +kernel)
  · exact st _ (by decide +kernel)
  · exact st _ (by decide +kernel)
  · exact no _ (by decide +kernel) (by simp [PyData.eqv])
  · exact no _ (by decide +kernel) (by simp [PyData.eqv])
  · exact no _ (by decide +kernel) (by simp [PyData.eqv])
  · exact no _ (by decide +kernel) (by simp [PyData.eqv])
  · exact no _ (by decide +kernel) (by simp [PyData.eqv])
  · exact no _ (by decide +kernel) (by simp [PyData.eqv])
/-! the kinds of changes and the places, put together by the law -/
def kPut (x : Str) : List Str := ["put", x]
def kDrop (x : Str) : List Str := ["drop", x]
def kOn (x f : Str) : List Str := ["on", x, f]
def kOff (x f : Str) : List Str := ["off", x, f]
def lawKinds (t : Tab) : List (List Str) := [kPut t.1, kDrop t.1] ++ t.2.2.map (kOn t.1) ++ t.2.2.map (kOff t.1)
theorem kindsT_perm (t : Tab) : (lawKinds t).Perm (kindsT t) := by
  have fl : ∀ fs : List Str, (fs.map (kOn t.1) ++ fs.map (kOff t.1)).Perm (kindsF t.1 fs) := by
    intro fs
    induction fs with
    | nil => exact .refl _
    | cons f r ih =>
      show (kOn t.1 f :: (r.map (kOn t.1) ++ kOff t.1 f :: r.map (kOff t.1))).Perm (kOff t.1 f :: kOn t.1 f :: kindsF t.1 r)
      exact (List.Perm.cons _ (List.perm_middle.trans (List.Perm.cons _ ih))).trans (List.Perm.swap ..)
  show ([kPut t.1, kDrop t.1] ++ t.2.2.map (kOn t.1) ++ t.2.2.map (kOff t.1)).Perm (kDrop t.1 :: kPut t.1 :: kindsF t.1 t.2.2)
  rw [List.append_assoc]
  exact (List.Perm.append_left _ (fl t.2.2)).trans (List.Perm.swap ..)
theorem flat_perm {α β : Type} {f g : α → List β} : ∀ {l : List α}, (∀ a ∈ l, (f a).Perm (g a)) → (l.flatMap f).Perm (l.flatMap g)
  | [], _ => .refl _
  | a :: r, h => by
    rw [List.flatMap_cons, List.flatMap_cons]
    exact (h a List.mem_cons_self).append (flat_perm fun b hb => h b (List.mem_cons_of_mem _ hb))
theorem kinds_perm (p : List Tab) : (p.flatMap lawKinds).Perm (kindsS (sortP p)) :=
  (flat_perm fun t _ => kindsT_perm t).trans (List.Perm.flatMap_right _ (sortP_perm p).symm)
def lawDue (d : PyData) (t : Tab) : List (List Str) := (t.2.1.filter fun c => decide (reprText c.2 = d.shown)).map fun c => [t.1, c.1]
theorem due_perm {p : List Tab} (h : PlanOk p) {d : PyData} (hd : d ∈ kinds10) : (p.flatMap (lawDue d)).Perm (placesS (sortP p) d) := by
  have e : ∀ t ∈ p, lawDue d t = ((kdT t).filter fun q => PyData.eqv q.2 d).map (·.1) := fun t ht => by
    unfold lawDue kdT
    rw [List.filter_map, List.map_map]
    have : t.2.1.filter (fun c => decide (reprText c.2 = d.shown)) = t.2.1.filter ((fun q : List Str × PyData => PyData.eqv q.2 d) ∘ fun c : Str × Str => ([t.1, c.1], PyData.str c.2)) :=
      List.filter_congr fun c hc => kinds_eq ((h.tb t ht).cn c hc).2 d hd
    rw [this]
    rfl
  refine (flat_perm (g := fun t => ((kdT t).filter fun q => PyData.eqv q.2 d).map (·.1)) fun t ht => by rw [e t ht]).trans ?_
  unfold placesS kdL
  rw [List.filter_flatMap, List.map_flatMap]
  exact List.Perm.flatMap_right _ (sortP_perm p).symm
end K01
set_option Elab.async false
set_option linter.all false
set_option maxRecDepth 100000
set_option maxHeartbeats 4000000
/-! _law_word(lambda: ..): all but the tables named stays -/
namespace Dl
open PySem PySem.Spec PyProof.Rows L2 Evl Gd LamX K01
/-- all but these tables stays -/
def Same (T : List (Addr × Str)) (H H' : Hp) : Prop := ∀ b o, H b = some o → b ∉ T.map (·.1) → H' b = some o
theorem Same.refl {T : List (Addr × Str)} (H : Hp) : Same T H H := fun _ _ e _ => e
section
variable {X : Cx} {pins : List (Addr × Obj)} {σ : L2.St} {H : Hp} {s : Shared}
abbrev lq (X : Cx) : Str := X.env.qual ++ "<lambda>"
abbrev lamO (X : Cx) (ar : Arguments) (e : Expr) (sc : Scope) (pm : Value) (c' : Addr) (ctv : Value) : Obj := PySem.W.kla_obj "<lambda>" (lq X) ar e sc (cloFrom X.env.cells sc.names []) pm c' ctv
theorem lam_at {T : List (Addr × Str)} {c P : Addr} {ar : Arguments} {e : Expr} {sc : Scope} {lp : Pos} {G Q : Value → Shared → Prop} (I : Inv X pins σ H s) (tb : TabB X.base X.mg c P) (hc : X.env.code = .ref c)
    (inT : (P, lq X) ∈ T) (one : ∀ p ∈ T, p.1 = P → p.2 = lq X) (ht : Tabs T H) (hd : defaultsOf ar X.env = ([], [])) (hf : ∀ y ∈ sc.names, y.2 = .free → ∃ c, X.env.cells.lookup y.1 = some c)
    (k : ∀ (f c' : Addr) (pm ctv : Value) (H2 : Hp) (s2 : Shared), Inv X pins σ H2 s2 → Same T H H2 → Tabs T H2 → s2.heap.get? f = some (lamO X ar e sc pm c' ctv) → H2 f = none → f ∉ frs X.stack → H2 c' = some (CodeO c' (lq X)) → Q (.ref f) s2) :
    wpAny (model X.prog X.w) X.A (eval (.Lambda ar e sc lp) X.env) Q G s := by
  obtain ⟨qs, eP, tr, am⟩ := ht _ inT
  have hp : s.heap.get? P = some { cls := .none, data := .fields qs } := I.hok P _ eP
  have stack : ∀ f, s.heap.objs.size ≤ f → f ∉ frs X.stack := fun f le z => (List.mem_cons.mp (I.stkSub _ z)).elim (fun z => by
    have q := I.lt
    rw [← z] at q
    exact Nat.lt_irrefl _ (Nat.lt_of_lt_of_le q le)) (I.nofs le)
  have bi : s.heap.BuiltinsAt X.mg P := tb.bm.keeps I.bk
  refine PySem.W.kla_eval hd ?_
  cases found : codeAmong lp qs.toList with
  | some cv =>
    obtain ⟨c', rfl, co⟩ := am lp cv found
    exact PySem.W.kla_makeFunctionHit (mg := X.mg) (c := c) (P := P) (ps := qs) (closure_ok hf) I.ok.glob (I.mod.glob.keeps I.bk) hc (tb.code.keeps I.bk) hp tr found bi fun ctv hh tk keep le =>
      k hh.objs.size c' _ ctv H _ (I.kept fun b o z => Heap.get?_push_of_some _ (keep b o z)) (Same.refl H) ht (Heap.get?_push_size _ rfl) (I.hok.fresh le) (stack _ le) co
  | none =>
    refine PySem.W.kla_makeFunction (mg := X.mg) (c := c) (P := P) (ps := qs) (closure_ok hf) I.ok.glob (I.mod.glob.keeps I.bk) hc (tb.code.keeps I.bk) hp tr found tb.gP bi fun c' ctv hh tk ext ge lt cr at_ => ?_
    obtain ⟨_, oc, us, t, e1, oc1, oc2, oc3⟩ := cr
    cases e1
    have cn : H c' = none := I.hok.fresh ge
    have le : s.heap.objs.size ≤ hh.objs.size := by omega
    have grown : (qs ++ #[rawInt lp.line, rawInt lp.col, .ref c']).toList = qs.toList ++ [rawInt lp.line, rawInt lp.col, .ref c'] := by simp
    have stay : ∀ b o, H b = some o → b ≠ P → upd (upd H P (.tbl (qs ++ #[rawInt lp.line, rawInt lp.col, .ref c']))) c' (CodeO c' (lq X)) b = some o := fun b o z n => by
      rw [upd_ne (ne_of_none z cn), upd_ne n]
      exact z
    have code : ∀ b r, H b = some (CodeO b r) → b ≠ P := fun b r z n => by
      rw [n, eP] at z
      exact codeO_ne qs (Option.some.inj z).symm
    refine k hh.objs.size c' _ ctv _ _ (inv_table (t' := tk) (more := #[rawInt lp.line, rawInt lp.col, .ref c']) (h' := hh.push (lamO X ar e sc ((X.mg "__name__").getD .none) c' ctv)) I eP (fun b o n z => Heap.get?_push_of_some _ (ext b o n z)) (Heap.get?_push_of_some _ at_) ge
      ⟨oc, us, t, Heap.get?_push_of_some _ oc1, oc2, oc3⟩) (fun b o z n => stay b o z fun q => n (q ▸ List.mem_map_of_mem (f := fun x : Addr × Str => x.1) inT)) (fun p hp1 => ?_) (Heap.get?_push_size _ rfl) ?_ (stack _ le) upd_same
    · by_cases q : p.1 = P
      · have e2 := one p hp1 q
        refine ⟨qs ++ #[rawInt lp.line, rawInt lp.col, .ref c'], ?_, ?_, fun pos cv hcv => ?_⟩
        · rw [q, upd_ne (ne_of_none eP cn), upd_same]
        · rw [grown]
          exact PySem.TriplesOk_snoc _ _ _ _ tr
        · rw [grown] at hcv
          rw [e2]
          rcases among_app _ tr hcv with z | z
          · obtain ⟨c0, z1, z2⟩ := am pos cv z
            exact ⟨c0, z1, stay _ _ z2 (code _ _ z2)⟩
          · exact ⟨c', z, upd_same⟩
      · obtain ⟨rs, z1, z2, z3⟩ := ht p hp1
        refine ⟨rs, stay _ _ z1 q, z2, fun pos cv hcv => ?_⟩
        obtain ⟨c0, y1, y2⟩ := z3 pos cv hcv
        exact ⟨c0, y1, stay _ _ y2 (code _ _ y2)⟩
    · have n1 : hh.objs.size ≠ c' := Nat.ne_of_gt lt
      have n2 : hh.objs.size ≠ P := Nat.ne_of_gt (Nat.lt_of_lt_of_le (Heap.lt_size hp) le)
      rw [upd_ne n1, upd_ne n2]
      exact I.hok.fresh le
def tWord (T : List (Addr × Str)) (K : PySem.W.Frag) (t : XK → TE) : TE := fun σ H Q => Tabs T H ∧ ∀ H2, Same T H H2 → Tabs T H2 → TTw K (fun E H' Q' => t E σ H' Q') H2 Q
theorem scWord : FnScope ["act", "caught", "e", "kinds"] ["act"] (defScope sWord) := ⟨rfl, rfl, rfl, by decide +kernel, rfl, by decide +kernel, by decide +kernel⟩
end
section
variable {X : Cx}
/-- _law_word(lambda: e) -/
theorem pe_word {T : List (Addr × Str)} {f c P : Addr} {fd : FuncData} {k : Nat} {ar : Arguments} {e : Expr} {sc : Scope} {t : XK → TE} {p lp pos : Pos} (W : WdT X.K X.mg) (F : FnP X.K "_law_word" sWord f fd) (gW : X.mg "_law_word" = some (.ref f)) (hg : Gl X "_law_word")
    (tb : TabB X.base X.mg c P) (hc : X.env.code = .ref c) (inT : (P, lq X) ∈ T) (one : ∀ p ∈ T, p.1 = P → p.2 = lq X) (hr : Room (k + 2) X.A) (L : LamS X.env.scope sc) (hd : defaultsOf ar X.env = ([], []))
    (hb : ∀ (q : Str) (cl : List (Str × Addr)) (pm cv ctv : Value), bindArgs (PySem.W.kla_fn "<lambda>" q ar e sc cl pm cv ctv) ⟨[], []⟩ = pure [])
    (body : ∀ (A : Around) (outer : List PySem.Env) (s : Shared) (H : Hp) (E : XK) (f c' : Addr), Room k (A.deeper (lamEnv X sc s.heap.objs.size f c')) → PE (lamCx X A outer s H E sc f c') e (t E)) :
    PE X (.Call (.Name "_law_word" p) [.Lambda ar e sc lp] [] pos) (tWord T X.K t) := by
  have B : L2.Binds X.K fd ["act"] [] := F.bindsN fun _ _ _ _ _ _ us hl => match us, hl with | [_], _ => rfl
  obtain ⟨oc, od, dV, kV, doc, pm0, an, cdv, ct, osl, rfl, lk, hcd, _, _⟩ := F.ex
  refine ⟨fun pins s σ H Q I ⟨ht, h⟩ => wpAny_Call_Name_kw (ld_glob I hg gW ?_ (by decide))⟩
  refine PySem.W.callWith_K (h₀ := X.base) I.ok.mod.kin F.kp ?_ (by rfl) (by rfl)
  show wpAny _ _ (spliced ((false, eval (.Lambda ar e sc lp) X.env) :: backTo pos (starEach [] X.env))) _ _ s
  refine Calls.spliced_cons (lam_at I tb hc inT one ht hd (L.has I.ok) fun g c' pm ctv H2 s2 I2 sm t2 og gn gf co => Calls.spliced_nil ⟨I2.kIn, ?_⟩)
  have run : codeAny (model X.prog X.w) X.A (.call (.ref f) ⟨[.ref g], []⟩) (CR C8.CX0 X.stack X.prog X.w H2 s2 Q C8.E0) s2 :=
    run_ofS (N := ["act", "caught", "e", "kinds"]) (ps := ["act"]) (us := [.ref g]) (vs := [.ref g]) lk hcd scWord hr I2.env0 (B s2 [.ref g] I2.kIn rfl) (.cons rfl .nil) rfl fun hr2 => by
      obtain ⟨r, h1, h2⟩ := word_gives (X := X) (q := lq X) (g := f) (cdg := cdv) W g c' s2 H2 Q (fun E H' Q' => t E σ H' Q')
        (fun V pn xe E p1 p2 tk hV => pe_act (i := 0) I2 L og gn gf (hb _ _ _ _ _) tk hV hr2 (fun A outer s H hr3 => body A outer s H E g c' hr3) rfl (Or.inl rfl)) co (h H2 sm t2)
      exact ⟨r, h1.nox, h2⟩
  refine wpAny_call (codeAny_mono run fun r s3 hq => ?_)
  match r, hq with
  | .error _, hq => exact (show False from hq).elim
  | .ok (.ret _), hq => exact I2.after hq
  | .ok .next, hq => exact False.elim hq
  | .ok .brk, hq => exact False.elim hq
  | .ok .cont, hq => exact False.elim hq
end
/-! at the data level -/
def hideO : Option Dv → Option Dv
  | some (.own _) => none
  | some (.ownK _) => none
  | some (.ownX _ _ _) => none
  | o => o
def hideE (δ : Env) : Env := δ.map hideO
section
variable {K : PySem.W.Frag} {B : Base} {F F' H H' : Hp} {v : V} {e : Dv} {δ : Env} {b : Nat} {σ : L2.St} {R : Dv → Nat → Prop}
theorem hide_get {i : Nat} (h : (hideE δ)[i]? = some (some e)) : δ[i]? = some (some e) ∧ e.isOwn = false := by
  unfold hideE at h
  rw [List.getElem?_map] at h
  cases q : δ[i]? with
  | none =>
    rw [q] at h
    cases h
  | some o =>
    rw [q] at h
    cases o with
    | none => cases h
    | some e' =>
      cases e' <;> cases h <;> exact ⟨rfl, rfl⟩
theorem Sr.same (s : Sr K B b F H) (h : Same B.T H H') (t : Tabs B.T H') : Sr K B b F H' ∧ Go B F H F H' := by
  have cold : ∀ a, ¬ B.hot a → a ∉ B.T.map (·.1) := fun a n z => n (.inr z)
  have tn : ∀ a ∈ B.T.map (·.1), F a = none := fun a ha => by
    obtain ⟨p, hp, rfl⟩ := List.mem_map.mp ha
    exact (s.tb0 p hp).2
  have ft : ∀ {a u}, F a = some u → a ∉ B.T.map (·.1) := fun {a u} e z => by
    rw [tn a z] at e
    cases e
  have some_ : ∀ a ∈ B.T.map (·.1), H' a ≠ none := fun a ha => by
    obtain ⟨p, hp, rfl⟩ := List.mem_map.mp ha
    obtain ⟨ps, e, _⟩ := t p hp
    rw [e]
    exact fun z => nomatch z
  have tt : ∀ a ∈ B.T.map (·.1), ∃ ps, H a = some (.tbl ps) := fun a ha => by
    obtain ⟨p, hp, rfl⟩ := List.mem_map.mp ha
    obtain ⟨ps, e, _⟩ := s.tabs p hp
    exact ⟨ps, e⟩
  refine ⟨{ le := fun a u e => ?_, nfz := s.nfz, ntb := s.ntb, ex0 := s.ex0, fr := fun a o e n l => h _ _ (s.fr a o e n l) (cold a n), dom := fun a n => ?_, frN := s.frN, free := fun f a u e n => h _ _ (s.free f a u e n) (ft e), lkd := fun p hp => ?_, tabs := t, tb0 := s.tb0, pen := fun p a ns e => ?_ }, Ex.refl F, fun a o e n => h a o e (cold a n), fun _ _ e _ => .of e⟩
  · rcases s.le a u e with z | ⟨z, o, y⟩
    · exact .inl (h _ _ z (ft e))
    · exact .inr ⟨z, o, h _ _ y (ft e)⟩
  · by_cases q : a ∈ B.T.map (·.1)
    · exact some_ a q
    · have := s.dom a n
      cases y : H a with
      | none => exact absurd y this
      | some u =>
        rw [h _ _ y q]
        exact fun z => nomatch z
  · obtain ⟨u, h2, h3, h4⟩ := s.lkd p hp
    exact ⟨u, h2, h _ _ h3 (ft h4), h4⟩
  · obtain ⟨h1, h2, h3, h4, i, d, h5, h6⟩ := s.pen p a ns e
    refine ⟨h1, h2, h3, h4, i, d, h _ _ h5 (fun z => ?_), h6⟩
    obtain ⟨ps, y⟩ := tt p z
    rw [h5] at y
    cases y
/-- the word of an act -/
theorem me_word {t : XK → TE} (h : ∀ B' : Base, B'.T = B.T → B'.free = B.free → B'.lk = B.lk → B'.pn = B.pn → BX K B' → (∀ (i : Nat) (x y : Str) (b' : Nat), errs[i]? = some x → wds[i]? = some y → R (.dat (.str y)) b' → B'.RX (He.ga K x) b') →
      Me K B' (t B'.XE) (hideE δ) b fun _ b' => R (.dat (.str "")) b') : Me K B (tWord B.T K t) δ b R := fun σ F H s Q k => by
  refine ⟨s.tabs, fun H1 sm tb E Rk hE hR => ?_⟩
  obtain ⟨s1, g1⟩ := s.toSr.same sm tb
  have sd := s.back s1 g1
  have fin : ∀ (y : Str) (b' : Nat) (F' H' : Hp), R (.dat (.str y)) b' → Sr K B b' F' H' → Go B F H1 F' H' → ∀ H'', Ex H' H'' → Q (.str y) H'' := fun y b' F' H' r s' g' H'' x =>
    k _ _ b' F' H'' r (s'.grow x) ((g1.trans g').trans (Go.of_ex x)) (.str y) (Nw.no rfl)
  refine h (B.sub F H1 B.T (fun C b' => ∃ (i : Nat) (x y : Str), errs[i]? = some x ∧ wds[i]? = some y ∧ C = He.ga K x ∧ R (.dat (.str y)) b') E) rfl rfl rfl rfl (fun C b' F' H' ⟨i, x, y, e1, e2, e3, r⟩ s' => ?_) (fun i x y b' e1 e2 r => ⟨i, x, y, e1, e2, rfl, r⟩) σ F H1 ?_ Rk (fun v e b' F' H' r s' g' d nw => ?_)
  · subst e3
    obtain ⟨s2, g2⟩ := s1.after (.inr rfl) s'
    exact hE H' i x y e1 e2 (fin y b' F' H' r s2 g2)
  · refine ⟨s1.sub (.inr rfl), ?_, fun i e q => ?_, fun i j ei ej v ne q1 q2 o1 => ?_⟩
    · unfold hideE
      rw [List.length_map]
      exact sd.len
    · obtain ⟨q1, q2⟩ := hide_get q
      obtain ⟨v, h1, h2⟩ := sd.get q1 q2
      refine ⟨v, h1, Dr.of ?_⟩
      cases e with
      | own _ => cases q2
      | ownK _ => cases q2
      | ownX _ _ _ => cases q2
      | dat _ => exact h2
      | mp _ => exact h2
      | pen => exact h2
    · rw [(hide_get q1).2] at o1
      cases o1
  · obtain ⟨s2, g2⟩ := s1.after (.inr rfl) s'
    exact hR v H' (fin "" b' F' H' r s2 g2)
end
end Dl
namespace Gd
open PySem PySem.Spec PyProof.Rows L2
section
variable {P : Program} {w : World} {K : PySem.W.Frag} {mg : Str → Option Value} {base : Heap}
/-- a def that shows things -/
theorem FunD.okG {x : Str} {params : Arguments} {body : List Stmt} {scope : Scope} {dvs : List V} {kws : List (Str × V)} {f : Addr} {fd : FuncData} {N ps : List Str} {k : Nat} {sp : Sp} (F : FunD K x x params body scope dvs kws f fd) (S : FnScope N ps scope)
    (len : ∀ vs H Q E, sp vs H Q E → vs.length = ps.length)
    (hbody : ∀ (cdv : Value) (A : Around) (outer : List Env) (s : Shared) (H : Hp) (vs : List V) (Q : VK), (A.deeper (envOfC x scope s.heap.objs.size f cdv)).guards = some [] → Room k (A.deeper (envOfC x scope s.heap.objs.size f cdv)) → sp vs H Q E0 → fd.code = cdv →
      ∃ t, PSs (cxOf C8.CX0 P w K mg base N x scope f cdv A outer s H E0).nox body t ∧ t { nx := fun _ H' => Q .non H', rt := Q } (L2.start N vs) H) : FnG P w K mg base (k + 1) f fd ps sp := by
  obtain ⟨oc, od, dV, kV, doc, pm, an, cdv, ct, osl, rfl, lk, hcd, _, _⟩ := F.ex
  refine ⟨len, ?_⟩
  intro A outer s H args us vs Q hg hr e0 hb r hsp
  refine LamX.run_ofS lk hcd S hr e0 hb r (len _ _ _ _ hsp) fun hr' => ?_
  obtain ⟨t, h1, h2⟩ := hbody cdv A outer s H vs Q (deeper_guards hg) hr' hsp rfl
  exact ⟨t, h1.nox, h2⟩
end
end Gd
set_option Elab.async false
set_option linter.all false
set_option maxRecDepth 100000
set_option maxHeartbeats 4000000
/-! the data level: more rules; what a law's defs ask of their callees -/
namespace Dl
open PySem PySem.Spec PyProof.Rows L2 Evl Gd LamX K01
section
variable {K : PySem.W.Frag} {B : Base} {F F' H H' : Hp} {v : V} {e : Dv} {δ : Env} {b : Nat} {σ : L2.St} {d : PyData} {ds : List PyData} {ta tb te : TE} {E : Ed}
/-- x, y = e, e': both may be new things -/
theorem mz_parOO {i j : Nat} (ne : i ≠ j) (hi : i < δ.length) (h : Me K B ta δ b fun x b1 => Me K B tb δ b1 fun y b2 => E.nx ((δ.set i (some x)).set j (some y)) b2) : Mz K B (tPar i j (tCons ta (tCons tb tNil))) δ b E := fun σ F H s D dd =>
  h σ F H s _ fun v x b1 F1 H1 m s1 g1 d1 n1 => by
    have s1' := s.back s1 g1
    refine m σ F1 H1 s1' _ fun w y b2 F2 H2 r s2 g2 d2 n2 => ?_
    have d1' := d1.kept s1 s2 g2
    have s3 := s.back s2 (g1.trans g2)
    have m1 : x.isOwn = true → ∀ (j : Nat) (ej : Dv), δ[j]? = some (some ej) → ej.isOwn = true → σ[j]? ≠ some (some v) := fun o j' ej h1 h2 z => by
      obtain ⟨p, e1, e2⟩ := n1 o
      rw [e1] at z
      exact s.frsl e2 j' ej h1 h2 z
    refine ⟨v, w, rfl, dd.nx _ b2 _ F2 H2 r ((s3.set i d1' m1).set j d2 fun o j' ej h1 h2 z => ?_) (g1.trans g2).ex⟩
    obtain ⟨p, e1, e2⟩ := n2 o
    rw [e1] at z
    by_cases q : i = j'
    · subst q
      rw [List.getElem?_set_self hi] at h1
      cases h1
      rw [List.getElem?_set_self (by rw [← s.len]; exact hi)] at z
      obtain ⟨p', u, q1, q2, _⟩ := d1.ref h2
      cases z
      cases q1
      rw [e2] at q2
      cases q2
    · rw [List.getElem?_set_ne q] at h1 z
      exact s1'.frsl e2 j' ej h1 h2 z
theorem opd_neSame {p : Str} {R : Dv → Prop} (k : R (.dat (.bool false))) : OpD K B rNe (.dat (.str p)) (.dat (.str p)) R := opd_neS (by rw [decide_eq_true rfl]; exact k)
theorem opd_eqSame {p : Str} {R : Dv → Prop} (k : R (.dat (.bool true))) : OpD K B rEq (.dat (.str p)) (.dat (.str p)) R := opd_eqS (by rw [decide_eq_true rfl]; exact k)
/-- [..] * n -/
theorem opd_rep {n : Int} {R : Dv → Prop} (h1 : 0 ≤ n) (h2 : n ≤ 100) (h3 : ds.length ≤ 100) (k : R (.own (List.replicate n.toNat ds).flatten)) : OpD K B rRep (.dat (.list ds)) (.dat (.int n)) R := fun b F H s vx vy hx hy Q q => by
  cases (show Dq K F vy (.int n) from hy)
  cases (show Dq K F vx (.list ds) from hx) with
  | @lst p vs _ hr hd =>
    have hH := rd_lst s hr
    refine ⟨p, n, vs, rfl, rfl, hH, by omega, by omega, ?_, fun l hl => ?_⟩
    · rw [hd.len]
      have h4 : n.toNat ≤ 100 := by omega
      have := Nat.mul_le_mul h3 h4
      exact sz_of (by omega)
    · obtain ⟨s2, g2, d2, a2⟩ := s.newL hl (dqAll_rep hd n.toNat)
      exact q _ _ F _ k s2 g2 d2 a2
theorem dp_strs (s : Sr K B b F H) {xs : List Str} (h : Dq K F v (.list (xs.map .str))) : Dp K H v (.list (xs.map .str)) := by
  cases h with
  | @lst p vs _ hr hd =>
    refine .lst (lk_l s.lk (.inl hr)) ?_
    clear hr
    induction xs generalizing vs with
    | nil =>
      cases hd
      exact .nil
    | cons x r ih =>
      cases hd with
      | cons h1 h2 =>
        cases h1
        exact .cons (.str x) (ih h2)
theorem eqvAll_strs : ∀ xs : List Str, PyData.eqvAll (xs.map .str) (xs.map .str) = true
  | [] => by simp [PyData.eqvAll]
  | x :: r => by
    rw [List.map_cons, PyData.eqvAll, eqvAll_strs r]
    simp [PyData.eqv]
theorem opd_neStrs {xs : List Str} {R : Dv → Prop} (hx : ∀ x ∈ xs, (PyData.str x).canLay0 = true) (k : R (.dat (.bool false))) : OpD K B (rNeD K) (.dat (.list (xs.map .str))) (.dat (.list (xs.map .str))) R := opd_pure (d := .bool false) (fun F H vx vy Q ⟨b, s⟩ h1 h2 q => by
  have lay : SeqAt.shaped (.list (xs.map .str)) = true := by
    have c : (PyData.list (xs.map .str)).canLay0 = true := canLayAll_of fun d hd => by
      obtain ⟨x, h, rfl⟩ := List.mem_map.mp hd
      exact hx x h
    have dp : (PyData.list (xs.map .str)).depth ≤ 64 := by
      rw [PyData.depth, depth_strs]
      decide
    show ((PyData.list (xs.map .str)).canLay0 && decide ((PyData.list (xs.map .str)).depth ≤ 64)) = true
    rw [c, decide_eq_true dp]
    rfl
  refine ⟨_, _, dp_strs s (show Dq K F vx _ from h1), dp_strs s (show Dq K F vy _ from h2), lay, lay, ?_⟩
  have e : PyData.eqv (.list (xs.map .str)) (.list (xs.map .str)) = true := by
    simp only [PyData.eqv]
    exact eqvAll_strs xs
  rw [e]
  exact q _ (.bl false)) k
end
/-! what a def asks -/
section
variable (P : Program) (w : World) (K : PySem.W.Frag) (mg : Str → Option Value) (base : Heap)
/-- a def by its name -/
def HasF (CX : CXT) (k : Nat) (x : Str) (ps : List Str) (sp : Sp) : Prop := ∃ f fd, mg x = some (.ref f) ∧ PySem.W.keepIn K (.ref f) = true ∧ FnOk P w K mg base CX k f fd ps sp ∧ Binds K fd ps []
def HasG (k : Nat) (x : Str) (ps : List Str) (sp : Sp) : Prop := ∃ f fd, mg x = some (.ref f) ∧ PySem.W.keepIn K (.ref f) = true ∧ FnG P w K mg base k f fd ps sp ∧ Binds K fd ps []
/-- a method -/
def HasM (C : Addr) (CX : CXT) (k : Nat) (m : Str) (ps : List Str) (sp : Sp) : Prop := ∃ f fd, Meth K C m f ∧ FnOk P w K mg base CX k f fd ps sp ∧ Binds K fd ps []
/-- a property -/
def HasP (C : Addr) (CX : CXT) (k : Nat) (m : Str) (sp : Sp) : Prop := ∃ p g fd, PropOf K C m p g ∧ FnOk P w K mg base CX k g fd ["self"] sp ∧ Binds K fd ["self"] []
/-- builtins that no name hides -/
structure Bn : Prop where
  range : mg "range" = none
  repr : mg "repr" = none
  sorted : mg "sorted" = none
  list : mg "list" = none
  len : mg "len" = none
  isi : mg "isinstance" = none
  str : mg "str" = none
  dict : mg "dict" = none
  all : mg "all" = none
  tuple : mg "tuple" = none
  max : mg "max" = none
end
end Dl
namespace K01
open PySem PySem.Spec PyProof.Rows L2 Gd Evl Dl
/-- the class, as it is used -/
structure SchU (P : Program) (w : World) (K : PySem.W.Frag) (mg : Str → Option Value) (base : Heap) (C : Addr) : Prop where
  sc : ScT K C
  tables : HasP P w K mg base C CX0 1 "tables" (spD K 1 false [] (spTables K C))
  changes : HasP P w K mg base C CX0 1 "changes" (spD K 1 true [] (spChangesP K C))
  columns : HasM P w K mg base C (L2.CX P w) 2 "columns" ["self", "table"] (spD K 2 false [] (spColumns K C fun t => .tuple (t.2.1.map colD)))
  flags : HasM P w K mg base C (L2.CX P w) 2 "flags" ["self", "table"] (spD K 2 false [] (spColumns K C fun t => .tuple (t.2.2.map .str)))
  kindOf : HasM P w K mg base C (L2.CX P w) 4 "kind_of" ["self", "table", "column"] (spD K 3 false [] (spKindOf K C))
  places : HasM P w K mg base C CX0 1 "places" ["self", "kind"] (spD K 2 true [] (spPlaces K C))
end K01
set_option Elab.async false
set_option linter.all false
set_option maxRecDepth 100000
set_option maxHeartbeats 4000000
/-! methods asked of a schema of a plan; how long its tables are when shown -/
namespace K01
open PySem PySem.Spec PyProof.Rows L2 Gd Evl Dl LamX
theorem tab_eq {p : List Tab} (nd : (p.map (·.1)).Nodup) {t u : Tab} (ht : t ∈ p) (hu : u ∈ p) (e : t.1 = u.1) : t = u := by
  have h1 := look_mem nd ht
  induction p with
  | nil => cases ht
  | cons a r ih =>
    rw [List.map_cons, List.nodup_cons] at nd
    rcases List.mem_cons.mp ht with q1 | q1
    · rcases List.mem_cons.mp hu with q2 | q2
      · rw [q1, q2]
      · refine absurd ?_ nd.1
        rw [← q1, e]
        exact List.mem_map_of_mem (f := fun x : Tab => x.1) q2
    · rcases List.mem_cons.mp hu with q2 | q2
      · refine absurd ?_ nd.1
        rw [← q2, ← e]
        exact List.mem_map_of_mem (f := fun x : Tab => x.1) q1
      · exact ih nd.2 q1 q2 (look_mem nd.2 q1)
theorem mem_sortP {p : List Tab} {t : Tab} : t ∈ sortP p ↔ t ∈ p := (sortP_perm p).mem_iff
theorem isT_mem {p : List Tab} {t : Tab} (h : t ∈ p) : isT p (.str t.1) = true := by
  show (p.map (·.1)).contains t.1 = true
  simpa using ⟨_, _, h⟩
section
variable {K : PySem.W.Frag} {C : Addr} {p : List Tab} {t : Tab} {R : Dv → Nat → Prop} {RX : Addr → Nat → Prop} {b : Nat}
theorem col_at {g : Tab → PyData} (hp : PlanOk p) (tm : t ∈ p) (r : R (.dat (g t)) b) : spColumns K C g [.mp (IsSch K C (sortP p)), .dat (.str t.1)] b R RX :=
  ⟨sortP p, .str t.1, rfl, (hp.perm (sortP_perm p)).nd, fun u hu e => by
    have : u = t := tab_eq hp.nd (mem_sortP.mp hu) tm (PyData.str.inj e).symm
    rw [this]
    exact r, fun z => by
    rw [isT_mem (mem_sortP.mpr tm)] at z
    cases z⟩
theorem find_col {t : Tab} (h : TabOk t) {c : Str × Str} (hc : c ∈ t.2.1) : (t.2.1.find? fun q => decide (q.1 = c.1)) = some c := by
  have nd : (t.2.1.map (·.1)).Nodup := (List.nodup_append.mp h.nd).1
  revert nd hc
  generalize t.2.1 = l
  intro hc nd
  induction l with
  | nil => cases hc
  | cons a r ih =>
    rw [List.map_cons, List.nodup_cons] at nd
    rw [List.find?_cons]
    rcases List.mem_cons.mp hc with rfl | hc
    · rw [decide_eq_true rfl]
    · have ne : a.1 ≠ c.1 := fun z => nd.1 (z ▸ List.mem_map_of_mem (f := fun x : Str × Str => x.1) hc)
      rw [decide_eq_false ne]
      exact ih hc nd.2
theorem kind_at (hp : PlanOk p) (tm : t ∈ p) {c : Str × Str} (hc : c ∈ t.2.1) (r : R (.dat (.str c.2)) b) : spKindOf K C [.mp (IsSch K C (sortP p)), .dat (.str t.1), .dat (.str c.1)] b R RX :=
  ⟨sortP p, .str t.1, .str c.1, rfl, (hp.perm (sortP_perm p)).nd, fun u hu e => by
    have : u = t := tab_eq hp.nd (mem_sortP.mp hu) tm (PyData.str.inj e).symm
    subst this
    have fc := find_col (hp.tb u tm) hc
    refine ⟨fun x y ex hf => ?_, fun z => ?_⟩
    · cases ex
      rw [fc] at hf
      have q : c.2 = y := congrArg Prod.snd (Option.some.inj hf)
      rw [← q]
      exact r
    · have z' : (u.2.1.find? fun q => decide (q.1 = c.1)).isSome = false := z
      rw [fc] at z'
      exact Bool.noConfusion (show true = false from z'), fun z => by
    rw [isT_mem (mem_sortP.mpr tm)] at z
    cases z⟩
theorem kdL_len (hp : PlanOk p) : (kdL p).length ≤ 12 := by
  have step : ∀ q : List Tab, (∀ t ∈ q, TabOk t) → (kdL q).length ≤ 3 * q.length := by
    intro q
    induction q with
    | nil =>
      intro _
      exact Nat.le_refl 0
    | cons a r ih =>
      intro h
      have h1 := (h a List.mem_cons_self).c3
      have h2 := ih fun x hx => h x (List.mem_cons_of_mem _ hx)
      show ((a :: r).flatMap kdT).length ≤ 3 * (r.length + 1)
      rw [List.flatMap_cons, List.length_append]
      have h3 : (kdT a).length = a.2.1.length := by
        unfold kdT
        rw [List.length_map]
      have h4 : (r.flatMap kdT).length = (kdL r).length := rfl
      omega
  have h1 := step p hp.tb
  have h2 := hp.n4
  omega
theorem kinds_eqok (x : Str) (h : (PyData.str x).canLay0 = true) : ∀ d ∈ kinds10, EqOk (.str x) d = true := by
  intro d hd
  simp only [kinds10, List.mem_cons, List.not_mem_nil, or_false] at hd
  have sx : SeqAt.shaped (.str x) = true := by
    show ((PyData.str x).canLay0 && decide ((PyData.str x).depth ≤ 64)) = true
    rw [h]
    rfl
  have go : ∀ d : PyData, SeqAt.shaped d = true → EqOk (.str x) d = true := fun d h => by
    unfold EqOk
    rw [sx, h]
    rfl
  rcases hd with rfl | rfl | rfl | rfl | rfl | rfl | rfl | rfl | rfl | rfl
  · exact go _ (by decide +kernel)
  · exact go _ (by decide +kernel)
  · exact go _ (by decide +kernel)
  · exact go _ (by decide +kernel)
  · exact go _ (by decide +kernel)
  · exact go _ (by decide +kernel)
  · exact go _ (by decide +kernel)
  · exact go _ (by decide +kernel)
  · unfold EqOk
    simp
  · exact go _ (by decide +kernel)
theorem places_at (hp : PlanOk p) {d : PyData} (hd : d ∈ kinds10) (r : R (.own ((sortT (p.flatMap (lawDue d))).map tT)) b) : spPlaces K C [.mp (IsSch K C (sortP p)), .dat d] b R RX :=
  ⟨sortP p, d, rfl, Nat.le_trans (kdL_len (hp.perm (sortP_perm p))) (by decide), fun q hq => by
    obtain ⟨t, ht, hq⟩ := List.mem_flatMap.mp hq
    obtain ⟨c, hc, rfl⟩ := List.mem_map.mp hq
    exact kinds_eqok c.2 (strOk_name ((hp.tb t (mem_sortP.mp ht)).cn c hc).2) d hd, by
    rw [← sortT_eq (due_perm hp hd)]
    exact r⟩
end
end K01
set_option Elab.async false
set_option linter.all false
set_option maxRecDepth 100000
set_option maxHeartbeats 4000000
/-! how long what _law_shows shows is -/
namespace K01
open PySem PySem.Spec PyProof.Rows L2 Gd Evl Dl LamX
def Zs (zs : List (List Str)) : Prop := zs.length ≤ 24 ∧ ∀ z ∈ zs, z ≠ [] ∧ z.length ≤ 3 ∧ ∀ x ∈ z, isNameS x = true
theorem Zs.sort {zs : List (List Str)} (h : Zs zs) : Zs (sortT zs) := ⟨by rw [(sortT_perm zs).length_eq]; exact h.1, fun z hz => h.2 z ((sortT_perm zs).mem_iff.mp hz)⟩
theorem Zs.sz {zs : List (List Str)} (h : Zs zs) : Sz 2 800 (.list (zs.map tT)) := sz_lst (k := 24) (n := 1) (w := 30) (by rw [List.length_map]; exact h.1) (by decide) (by decide) fun d hd => by
  obtain ⟨z, hz, rfl⟩ := List.mem_map.mp hd
  obtain ⟨_, h2, h3⟩ := h.2 z hz
  exact sz_tup (k := 3) (n := 0) (w := 9) (by rw [List.length_map]; exact h2) (by decide) (by decide) fun x hx => by
    obtain ⟨y, hy, rfl⟩ := List.mem_map.mp hx
    exact sz_name (h3 y hy) (by decide) (by decide)
theorem Zs.fit {zs : List (List Str)} (h : Zs zs) : Fit (.list (zs.map tT)) := h.sz.fit (by decide) (by decide)
theorem sz_names {xs : List Str} (l : xs.length ≤ 10) (h : ∀ x ∈ xs, isNameS x = true) : Sz 1 100 (.list (xs.map .str)) := sz_lst (k := 10) (n := 0) (w := 9) (by rw [List.length_map]; exact l) (by decide) (by decide) fun d hd => by
  obtain ⟨x, hx, rfl⟩ := List.mem_map.mp hd
  exact sz_name (h x hx) (by decide) (by decide)
theorem sz_two {a b : PyData} {n w : Nat} (hw : w ≤ 1000) (h1 : Sz n w a) (h2 : Sz n w b) : Sz (n + 1) 3000 (.list [a, b]) := sz_lst (k := 2) (n := n) (w := w) (by simp) (by decide) (by omega) fun d hd => by
  simp only [List.mem_cons, List.not_mem_nil, or_false] at hd
  rcases hd with rfl | rfl <;> assumption
theorem fit_tab {t : Tab} (h : TabOk t) : Fit (.list [.tuple (t.2.1.map colD), .tuple (t.2.2.map .str)]) :=
  (sz_lst (k := 2) (n := 3) (w := 4240) (v := 9000) (by simp) (by decide) (by decide) fun d hd => by
    simp only [List.mem_cons, List.not_mem_nil, or_false] at hd
    rcases hd with rfl | rfl
    · exact Sz.up (sm_ct h) (by decide) (by decide)
    · exact Sz.up (sm_ft h) (by decide) (by decide)).fit (by decide) (by decide)
theorem fit_name {x : Str} (h : isNameS x = true) : Fit (.str x) := (sz_name (n := 0) (w := 9) h (by decide) (by decide)).fit (by decide) (by decide)
theorem fit_kinds : ∀ d ∈ kinds10, Fit d := by
  have all : ∀ d ∈ kinds10, small d = true ∧ d.showable = true ∧ d.leavesShort 50 = true ∧ d.depth ≤ 1 ∧ d.weight ≤ 140 := by
    have : (kinds10.all fun d => small d && d.showable && d.leavesShort 50 && decide (d.depth ≤ 1) && decide (d.weight ≤ 140)) = true := by decide +kernel
    intro d hd
    have q := List.all_eq_true.mp this d hd
    simp only [Bool.and_eq_true, decide_eq_true_eq] at q
    exact ⟨q.1.1.1.1, q.1.1.1.2, q.1.1.2, q.1.2, q.2⟩
  intro d hd
  obtain ⟨a, b, c, e, f⟩ := all d hd
  exact Sz.fit (n := 1) (w := 140) ⟨a, b, c, e, f⟩ (by decide) (by decide)
theorem flatL_step {β : Type} {p : List Tab} {j : Nat} {t : Tab} (h : p[j]? = some t) (f : Tab → List β) : (p.take (j + 1)).flatMap f = (p.take j).flatMap f ++ f t := by
  rw [take_snoc h, List.flatMap_append]
  simp
theorem lawKinds_len (t : Tab) : (lawKinds t).length = 2 + t.2.2.length + t.2.2.length := by
  unfold lawKinds
  rw [List.length_append, List.length_append, List.length_map, List.length_map]
  rfl
theorem flatL_len {β : Type} {f : Tab → List β} {n : Nat} : ∀ {p : List Tab}, (∀ t ∈ p, (f t).length ≤ n) → (p.flatMap f).length ≤ n * p.length
  | [], _ => Nat.le_refl _
  | t :: r, h => by
    have h1 := h t List.mem_cons_self
    have h2 := flatL_len (p := r) fun x hx => h x (List.mem_cons_of_mem _ hx)
    rw [List.flatMap_cons, List.length_append, List.length_cons, Nat.mul_succ]
    omega
theorem flatL_take {β : Type} {f : Tab → List β} {n : Nat} {p : List Tab} (hp : PlanOk p) (h : ∀ t ∈ p, (f t).length ≤ n) (j : Nat) : ((p.take j).flatMap f).length ≤ n * 4 := by
  have h1 := flatL_len (f := f) (p := p.take j) fun t ht => h t (List.mem_of_mem_take ht)
  have h2 := hp.n4
  have h3 : (p.take j).length ≤ p.length := List.length_take_le' ..
  have h4 : n * (p.take j).length ≤ n * 4 := Nat.mul_le_mul_left _ (by omega)
  omega
theorem kinds_le {p : List Tab} (hp : PlanOk p) (j : Nat) : ((p.take j).flatMap lawKinds).length ≤ 24 := flatL_take (n := 6) hp (fun t ht => by
  rw [lawKinds_len]
  have := (hp.tb t ht).f2
  omega) j
theorem due_le {p : List Tab} (hp : PlanOk p) (d : PyData) (j : Nat) : ((p.take j).flatMap (lawDue d)).length ≤ 12 := flatL_take (n := 3) hp (fun t ht => by
  unfold lawDue
  rw [List.length_map]
  have h1 : (t.2.1.filter fun c => decide (reprText c.2 = d.shown)).length ≤ t.2.1.length := List.length_filter_le ..
  have := (hp.tb t ht).c3
  omega) j
theorem zs_kinds {p : List Tab} (hp : PlanOk p) : Zs (p.flatMap lawKinds) := by
  refine ⟨?_, fun z hz => ?_⟩
  · have := kinds_le hp p.length
    rwa [List.take_length] at this
  · obtain ⟨t, ht, hz⟩ := List.mem_flatMap.mp hz
    have tok := hp.tb t ht
    unfold lawKinds at hz
    have n1 : isNameS "put" = true := by decide +kernel
    have n2 : isNameS "drop" = true := by decide +kernel
    have n3 : isNameS "on" = true := by decide +kernel
    have n4 : isNameS "off" = true := by decide +kernel
    have two : ∀ a b : Str, isNameS a = true → isNameS b = true → ([a, b] : List Str) ≠ [] ∧ ([a, b] : List Str).length ≤ 3 ∧ ∀ x ∈ ([a, b] : List Str), isNameS x = true := fun a b h1 h2 => ⟨by simp, by show 2 ≤ 3; decide, fun x hx => by
      simp only [List.mem_cons, List.not_mem_nil, or_false] at hx
      rcases hx with rfl | rfl <;> assumption⟩
    have three : ∀ a b c : Str, isNameS a = true → isNameS b = true → isNameS c = true → ([a, b, c] : List Str) ≠ [] ∧ ([a, b, c] : List Str).length ≤ 3 ∧ ∀ x ∈ ([a, b, c] : List Str), isNameS x = true := fun a b c h1 h2 h3 => ⟨by simp, by show 3 ≤ 3; decide, fun x hx => by
      simp only [List.mem_cons, List.not_mem_nil, or_false] at hx
      rcases hx with rfl | rfl | rfl <;> assumption⟩
    rcases List.mem_append.mp hz with hz | hz
    · rcases List.mem_append.mp hz with hz | hz
      · simp only [List.mem_cons, List.not_mem_nil, or_false] at hz
        rcases hz with rfl | rfl
        · exact two _ _ n1 tok.nm
        · exact two _ _ n2 tok.nm
      · obtain ⟨f, hf, rfl⟩ := List.mem_map.mp hz
        exact three _ _ _ n3 tok.nm (tok.fn f hf)
    · obtain ⟨f, hf, rfl⟩ := List.mem_map.mp hz
      exact three _ _ _ n4 tok.nm (tok.fn f hf)
theorem zs_due {p : List Tab} (hp : PlanOk p) (d : PyData) : Zs (p.flatMap (lawDue d)) := by
  refine ⟨?_, fun z hz => ?_⟩
  · have := due_le hp d p.length
    rw [List.take_length] at this
    omega
  · obtain ⟨t, ht, hz⟩ := List.mem_flatMap.mp hz
    have tok := hp.tb t ht
    unfold lawDue at hz
    obtain ⟨c, hc, rfl⟩ := List.mem_map.mp hz
    refine ⟨by simp, by show 2 ≤ 3; decide, fun x hx => ?_⟩
    simp only [List.mem_cons, List.not_mem_nil, or_false] at hx
    rcases hx with rfl | rfl
    · exact tok.nm
    · exact (tok.cn c (List.mem_filter.mp hc).1).1
/-- sorted(xs), tuples of texts -/
theorem cd_sortZ {K : PySem.W.Frag} {B : Base} {zs : List (List Str)} {R : Dv → Nat → Prop} {b : Nat} (h : Zs zs) (r : R (.own ((sortT zs).map tT)) b) : CallD K B (rSortD K) [.dat (.list (zs.map tT))] b R :=
  cd_sortD (alike_tT _) (sortable_tT fun z hz => (h.2 z hz).1) (fun d hd => by
    obtain ⟨z, _, rfl⟩ := List.mem_map.mp hd
    exact depth_tT z) (by rw [sortD_tT]; exact r)
end K01
set_option Elab.async false
set_option linter.all false
set_option maxRecDepth 100000
set_option maxHeartbeats 4000000
namespace K01
open PySem PySem.Spec PyProof.Rows L2 Gd Evl Dl LamX
abbrev NSh : List Str := ["schema", "plan", "again", "kinds_here", "table", "found", "told", "column", "kind", "early", "seen", "due", "some", "flag", "of"]
def spShows (K : PySem.W.Frag) (C : Addr) : DSpec := fun es b R _ => ∃ p, es = [.mp (IsSch K C (sortP p)), .dat (.dict (p.map planP))] ∧ PlanOk p ∧ R (.dat (.bool true)) b
section
variable {P : Program} {w : World} {K : PySem.W.Frag} {mg : Str → Option Value} {base : Heap} {f C : Addr} {fd : FuncData}
theorem scShows : FnScope NSh ["schema", "plan"] (defScope sShows) := ⟨rfl, rfl, rfl, by decide +kernel, rfl, by decide +kernel, by decide +kernel⟩
theorem ok_shows (T : Bn mg) (hS : SysD K) (U : SchU P w K mg base C) (F : FnP K "_law_shows" sShows f fd) : FnG P w K mg base 5 f fd ["schema", "plan"] (spD K 2 true [] (spShows K C)) := by
  obtain ⟨qT, gT, dT, pT, GT, bT⟩ := U.tables
  obtain ⟨qH, gH, dH, pH, GH, bH⟩ := U.changes
  obtain ⟨fC, dC, mC, GC, bC⟩ := U.columns
  obtain ⟨fF, dF, mF, GF, bF⟩ := U.flags
  obtain ⟨fK, dK, mK, GK, bK⟩ := U.kindOf
  obtain ⟨fP, dP, mP, GP, bP⟩ := U.places
  have sc := scShows
  refine Gd.FunD.okG F sc (fun vs H Q E h => spD_len h) (fun cdv A outer s H vs Q hgd hr h hcode => ⟨_, (pss_cons (ps_for PassesOwn.never rfl (pi_range1 rfl T.range (pa_cons pe_int pa_nil)) (pg_name (i := 2) sc.nd rfl (Or.inl rfl))
    (pss_cons (ps_set (i := 3) sc.nd rfl (Or.inl rfl) (pe_lst pa_nil))
    (pss_cons (ps_lock (ps_for PassesOwn.never rfl (pi_keys (pv 1)) (pg_name (i := 4) sc.nd rfl (Or.inr rfl))
    (pss_cons (ps_set (i := 3) sc.nd rfl (Or.inl rfl) (pe_op op_cat (pv 3) (pe_lst (pa_cons (pe_tup (pa_cons pe_str (pa_cons (pv 4) pa_nil))) (pa_cons (pe_tup (pa_cons pe_str (pa_cons (pv 4) pa_nil))) pa_nil)))))
    (pss_cons (ps_set (i := 3) sc.nd rfl (Or.inl rfl) (pe_op op_cat (pv 3) (pe_lc (own := [("flag", 13)]) (g := gName 13) (tt := tYes) rfl sc.nd (pi_tup (pe_ix ix_tup (pe_dget (hu_of hr) (pv 1) (pv 4) (fun _ _ => rfl)) pe_int (fun _ _ => rfl))) (blkOk_by (N := NSh) (sc := defScope sShows) (by decide +kernel)) (fun _ _ _ _ _ => pg_name (i := 13) sc.nd rfl (Or.inl rfl)) (fun _ _ _ _ _ => pts_nil) (fun _ _ _ _ _ => (pe_tup (pa_cons pe_str (pa_cons (pv 4) (pa_cons (pv 13) pa_nil))))))))
    (pss_one (ps_set (i := 3) sc.nd rfl (Or.inl rfl) (pe_op op_cat (pv 3) (pe_lc (own := [("flag", 13)]) (g := gName 13) (tt := tYes) rfl sc.nd (pi_tup (pe_ix ix_tup (pe_dget (hu_of hr) (pv 1) (pv 4) (fun _ _ => rfl)) pe_int (fun _ _ => rfl))) (blkOk_by (N := NSh) (sc := defScope sShows) (by decide +kernel)) (fun _ _ _ _ _ => pg_name (i := 13) sc.nd rfl (Or.inl rfl)) (fun _ _ _ _ _ => pts_nil) (fun _ _ _ _ _ => (pe_tup (pa_cons pe_str (pa_cons (pv 4) (pa_cons (pv 13) pa_nil)))))))))))))
    (pss_cons (ps_par (i := 5) (j := 6) rfl sc.nd rfl rfl (by decide) rfl rfl (pa_cons (pe_prop (pv 0) U.sc.cls pT GT (hr.mono (by decide)) bT .nil pass0 (by rfl)) (pa_cons (pe_prop (pv 0) U.sc.cls pH GH (hr.mono (by decide)) bH .nil pass0 (by rfl)) pa_nil)) (by rfl))
    (pss_cons (ps_if (pt_cmpR op_ne (pe_callB (call_repr hgd hr.units hS) (by rfl) T.repr (by decide +kernel) (pa_cons (pe_lst (pa_cons (pv 5) (pa_cons (pv 6) pa_nil))) pa_nil)) (pe_callB (call_repr hgd hr.units hS) (by rfl) T.repr (by decide +kernel) (pa_cons (pe_lst (pa_cons (pe_callB (call_sortedD rfl) (by rfl) T.sorted (by decide +kernel) (pa_cons (pv 1) pa_nil)) (pa_cons (pe_callB (cr_sortedDt hr.units hS) (by rfl) T.sorted (by decide +kernel) (pa_cons (pv 3) pa_nil)) pa_nil))) pa_nil)) (nomark _)) (pss_one (ps_ret pe_bl)) pss_nil)
    (pss_cons (ps_lock (ps_for PassesOwn.never rfl (pi_keys (pv 1)) (pg_name (i := 4) sc.nd rfl (Or.inr rfl))
    (pss_cons (ps_if (pt_cmpR op_ne (pe_callB (call_repr hgd hr.units hS) (by rfl) T.repr (by decide +kernel) (pa_cons (pe_lst (pa_cons (pe_meth (pv 0) U.sc.cls mC GC (hr.mono (by decide)) bC .nil (passes_call LamX.takes0 (fun _ _ _ _ h => h)) (pa_cons (pv 4) pa_nil)) (pa_cons (pe_meth (pv 0) U.sc.cls mF GF (hr.mono (by decide)) bF .nil (passes_call LamX.takes0 (fun _ _ _ _ h => h)) (pa_cons (pv 4) pa_nil)) pa_nil))) pa_nil)) (pe_callB (call_repr hgd hr.units hS) (by rfl) T.repr (by decide +kernel) (pa_cons (pe_callTy call_list_of (by rfl) T.list (by decide +kernel) (pa_cons (pe_dget (hu_of hr) (pv 1) (pv 4) (fun _ _ => rfl)) pa_nil)) pa_nil)) (nomark _)) (pss_one (ps_ret pe_bl)) pss_nil)
    (pss_one (ps_for PassesOwn.never rfl (pi_tup (pe_ix ix_tup (pe_dget (hu_of hr) (pv 1) (pv 4) (fun _ _ => rfl)) pe_int (fun _ _ => rfl))) (pg_tup rfl (pgs_cons (pg_name (i := 7) sc.nd rfl (Or.inl rfl)) (pgs_cons (pg_name (i := 8) sc.nd rfl (Or.inr rfl)) pgs_nil)))
    (pss_one (ps_if (pt_cmpR op_ne (pe_meth (pv 0) U.sc.cls mK GK (hr.mono (by decide)) bK .nil (passes_call LamX.takes0 (fun _ _ _ _ h => h)) (pa_cons (pv 4) (pa_cons (pv 7) pa_nil))) (pv 8) (nomark _)) (pss_one (ps_ret pe_bl)) pss_nil)))))))
    (pss_cons (ps_set (i := 9) sc.nd rfl (Or.inl rfl) (pe_lst (pa_cons (pe_meth (pv 0) U.sc.cls mP GP (hr.mono (by decide)) bP .nil pass0 (pa_cons pe_str pa_nil)) (pa_cons (pe_meth (pv 0) U.sc.cls mP GP (hr.mono (by decide)) bP .nil pass0 (pa_cons pe_str pa_nil)) pa_nil))))
    (pss_cons (ps_set (i := 10) sc.nd rfl (Or.inl rfl) (pe_callB (call_repr hgd hr.units hS) (by rfl) T.repr (by decide +kernel) (pa_cons (pv 9) pa_nil)))
    (pss_cons (ps_for PassesOwn.never rfl (pi_list (pe_lst (pa_cons pe_str (pa_cons pe_str (pa_cons pe_str (pa_cons pe_str (pa_cons pe_non (pa_cons pe_int (pa_cons (pe_tup pa_nil) (pa_cons (pe_lst pa_nil) (pa_cons pe_dnewK (pa_cons pe_bl pa_nil)))))))))))) (pg_name (i := 8) sc.nd rfl (Or.inr rfl))
    (pss_cons (ps_set (i := 11) sc.nd rfl (Or.inl rfl) (pe_lst pa_nil))
    (pss_cons (ps_lock (ps_for PassesOwn.never rfl (pi_keys (pv 1)) (pg_name (i := 4) sc.nd rfl (Or.inr rfl))
    (pss_one (ps_set (i := 11) sc.nd rfl (Or.inl rfl) (pe_op op_cat (pv 11) (pe_lc (own := [("column", 7), ("of", 14)]) (g := gTup K 2 (gCons (gName 7) (gCons (gName 14) gNil))) rfl sc.nd (pi_tup (pe_ix ix_tup (pe_dget (hu_of hr) (pv 1) (pv 4) (fun _ _ => rfl)) pe_int (fun _ _ => rfl))) (blkOk_by (N := NSh) (sc := defScope sShows) (by decide +kernel)) (fun _ _ _ _ _ => pg_tup rfl (pgs_cons (pg_name (i := 7) sc.nd rfl (Or.inl rfl)) (pgs_cons (pg_name (i := 14) sc.nd rfl (Or.inl rfl)) pgs_nil))) (fun _ _ _ _ _ => pts_one (pt_cmpR op_eq (pe_callB (id := "repr") (r := rRepr K) (by exact call_repr hgd hr.units hS) (by rfl) T.repr (by decide +kernel) (pa_cons (pv 14) pa_nil)) (pe_callB (id := "repr") (r := rRepr K) (by exact call_repr hgd hr.units hS) (by rfl) T.repr (by decide +kernel) (pa_cons (pv 8) pa_nil)) (nomark _))) (fun _ _ _ _ _ => (pe_tup (pa_cons (pv 4) (pa_cons (pv 7) pa_nil))))))))))
    (pss_cons (ps_set (i := 12) sc.nd rfl (Or.inl rfl) (pe_meth (pv 0) U.sc.cls mP GP (hr.mono (by decide)) bP .nil pass0 (pa_cons (pv 8) pa_nil)))
    (pss_cons (ps_if (pt_cmpR op_ne (pe_callB (call_repr hgd hr.units hS) (by rfl) T.repr (by decide +kernel) (pa_cons (pv 12) pa_nil)) (pe_callB (call_repr hgd hr.units hS) (by rfl) T.repr (by decide +kernel) (pa_cons (pe_callB (cr_sortedDt hr.units hS) (by rfl) T.sorted (by decide +kernel) (pa_cons (pv 11) pa_nil)) pa_nil)) (nomark _)) (pss_one (ps_ret pe_bl)) pss_nil)
    (pss_one (ps_expr (pe_bm PySem.F.plainAttrs_list PySem.F.slot_list_append rfl mt_append (pv 12) (pa_cons pe_non pa_nil)))))))))
    (pss_cons (ps_if (pt_cmpR op_ne (pe_callB (call_repr hgd hr.units hS) (by rfl) T.repr (by decide +kernel) (pa_cons (pv 9) pa_nil)) (pv 10) (nomark _)) (pss_one (ps_ret pe_bl)) pss_nil)
    (pss_cons (ps_expr (pe_bm PySem.F.plainAttrs_list PySem.F.slot_list_append rfl mt_append (pv 5) (pa_cons pe_non pa_nil)))
    (pss_one (ps_expr (pe_bm PySem.F.plainAttrs_list PySem.F.slot_list_append rfl mt_append (pv 6) (pa_cons pe_non pa_nil)))))))))))))))
    (pss_one (ps_ret pe_bl))), ?_⟩)
  refine spD_enter h (by decide) fun B b es R he hT hu hX hBX ⟨p, e, hp, hR⟩ => ?_
  subst e
  have hul := hu rfl
  have n4 := hp.n4
  obtain ⟨KZ, hKZ⟩ : ∃ KZ, KZ = p.flatMap lawKinds := ⟨_, rfl⟩
  obtain ⟨NS, hNS⟩ : ∃ NS, NS = sortS (p.map (·.1)) := ⟨_, rfl⟩
  have zk : Zs KZ := hKZ ▸ zs_kinds hp
  have e5 : ((sortP p).map fun t => PyData.str t.1) = NS.map .str := by
    rw [hNS, ← sortP_names, List.map_map]
    rfl
  have e6 : sortT (kindsS (sortP p)) = sortT KZ := by rw [hKZ, sortT_eq (kinds_perm p)]
  have nsok : ∀ x ∈ NS, isNameS x = true := fun x hx => by
    rw [hNS] at hx
    obtain ⟨t, ht, rfl⟩ := List.mem_map.mp ((sortS_perm _).mem_iff.mp hx)
    exact (hp.tb t ht).nm
  have nsl : NS.length ≤ 10 := by
    rw [hNS, (sortS_perm _).length_eq, List.length_map]
    omega
  have fit1 : Fit (.list [.list (NS.map .str), .list ((sortT KZ).map tT)]) := (sz_two (n := 2) (w := 800) (by decide) (Sz.up (sz_names nsl nsok) (by decide) (by decide)) (Zs.sz zk.sort)).fit (by decide) (by decide)
  obtain ⟨PK, hPK⟩ : ∃ PK, PK = sortT (p.flatMap (lawDue (.str "k"))) := ⟨_, rfl⟩
  obtain ⟨PM, hPM⟩ : ∃ PM, PM = sortT (p.flatMap (lawDue (.str "m"))) := ⟨_, rfl⟩
  have fit2 : Fit (.list [.list (PK.map tT), .list (PM.map tT)]) := (sz_two (n := 2) (w := 800) (by decide) (hPK ▸ (zs_due hp _).sort.sz) (hPM ▸ (zs_due hp _).sort.sz)).fit (by decide) (by decide)
  refine mz_seq (mz_for (mi_rng (ma_cons (me_int (ma_nil ⟨2, rfl, by decide, by decide, fun i δ b' => b' = b ∧ ∃ x2 x3 x4 x5 x6 x7 x8 x9 x10 x11 x12 x13 x14, δ = [some (.mp (IsSch K C (sortP p))), some (.dat (.dict (p.map planP))), x2, x3, x4, x5, x6, x7, x8, x9, x10, x11, x12, x13, x14], ⟨rfl, none, none, none, none, none, none, none, none, none, none, none, none, none, rfl⟩, ?_, ?_⟩)))))
  · rintro i d δ b' hi ⟨rfl, x2, x3, x4, x5, x6, x7, x8, x9, x10, x11, x12, x13, x14, rfl⟩
    refine mg_name ?_
    refine mz_seq (mz_setF (me_lst (ma_nil ⟨[], rfl, by decide, ?_⟩)))
    -- kinds_here
    refine mz_seq (mz_forK (dk_var rfl hul.1 hul.2) (fun j δ c => c = b' ∧ ∃ y4 y13, δ = [some (.mp (IsSch K C (sortP p))), some (.dat (.dict (p.map planP))), some (.dat d), some (.dat (.list (((p.take j).flatMap lawKinds).map tT))), y4, x5, x6, x7, x8, x9, x10, x11, x12, y13, x14]) ⟨rfl, x4, x13, rfl⟩ ?_ ?_)
    · rintro d2 o j q δ c hq ⟨rfl, y4, y13, rfl⟩
      obtain ⟨t, ht, rfl⟩ := get_map hq
      have tm : t ∈ p := List.mem_of_getElem? ht
      have tok := hp.tb t tm
      have lk := look_mem hp.nd tm
      have f2 := tok.f2
      have kl := kinds_le hp j
      obtain ⟨A, hA⟩ : ∃ A, A = ((p.take j).flatMap lawKinds).map tT := ⟨_, rfl⟩
      have Al : A.length ≤ 24 := by
        rw [hA, List.length_map]
        exact kl
      rw [← hA]
      refine mg_name ?_
      refine mz_seq (mz_setF (me_op (me_var (e := .dat (.list A)) (me_lst ?_))))
      refine ma_cons (me_tup (ma_cons (me_str (ma_cons (me_var (e := .dat (.str t.1)) (ma_nil ⟨[.str "put", .str t.1], rfl, le2, ?_⟩))))))
      refine ma_cons (me_tup (ma_cons (me_str (ma_cons (me_var (e := .dat (.str t.1)) (ma_nil ⟨[.str "drop", .str t.1], rfl, le2, ?_⟩))))))
      refine ma_nil ⟨[.tuple [.str "put", .str t.1], .tuple [.str "drop", .str t.1]], rfl, le2, ?_⟩
      refine opd_cat (as := A) (bs := [.tuple [.str "put", .str t.1], .tuple [.str "drop", .str t.1]]) (by show A.length + 2 ≤ 100000; omega) ?_
      obtain ⟨A1, hA1⟩ : ∃ A1, A1 = A ++ [.tuple [.str "put", .str t.1], .tuple [.str "drop", .str t.1]] := ⟨_, rfl⟩
      have A1l : A1.length ≤ 26 := by
        rw [hA1, List.length_append]
        show A.length + 2 ≤ 26
        omega
      rw [← hA1]
      have comp : ∀ (wd : Str) (k3 : Dv) (D : Dl.Env) (c : Nat) (R : Dv → Nat → Prop), D = [some (.mp (IsSch K C (sortP p))), some (.dat (.dict (p.map planP))), some (.dat d), some k3, some (.dat (.str t.1)), x5, x6, x7, x8, x9, x10, x11, x12, y13, x14] → R (.own ((t.2.2.map PyData.str).map fun x => .tuple [.str wd, .str t.1, x])) c →
          Me K (B.lock d2 o) (tLc (iTup K (tOp (rIxT K) (tDGet (tVar 1) (tVar 4)) (tC (.int 1)))) (gName 13) tYes (tTup (tCons (tC (.str wd)) (tCons (tVar 4) (tCons (tVar 13) tNil)))) [13]) D c R := by
        rintro wd k3 D c R rfl r
        refine me_map (j := 13) (mi_tup (me_op (me_dget (me_var (e := .dat (.dict (p.map planP))) (me_var (e := .dat (.str t.1)) ⟨_, .inr t.1, _, rfl, rfl, lk, me_int ?_⟩)))))
        refine opd_ixT (d := .tuple (t.2.2.map .str)) rfl ⟨_, rfl, by rw [List.length_map]; omega, fun x => .tuple [.str wd, .str t.1, x], fun x hx => ?_, r⟩
        exact me_tup (ma_cons (me_str (ma_cons (me_var (e := .dat (.str t.1)) (ma_cons (me_var (e := .dat x) (ma_nil ⟨[.str wd, .str t.1, x], rfl, le3, rfl, rfl⟩)))))))
      refine mz_seq (mz_setF (me_op (me_var (e := .dat (.list A1)) (comp "on" (.dat (.list A1)) _ _ _ rfl ?_))))
      refine opd_cat (as := A1) (bs := (t.2.2.map PyData.str).map fun x => .tuple [.str "on", .str t.1, x]) (by rw [List.length_map, List.length_map]; omega) ?_
      obtain ⟨A2, hA2⟩ : ∃ A2, A2 = A1 ++ (t.2.2.map PyData.str).map fun x => PyData.tuple [.str "on", .str t.1, x] := ⟨_, rfl⟩
      have A2l : A2.length ≤ 28 := by
        rw [hA2, List.length_append, List.length_map, List.length_map]
        omega
      rw [← hA2]
      refine mz_setF (me_op (me_var (e := .dat (.list A2)) (comp "off" (.dat (.list A2)) _ _ _ rfl ?_)))
      refine opd_cat (as := A2) (bs := (t.2.2.map PyData.str).map fun x => .tuple [.str "off", .str t.1, x]) (by rw [List.length_map, List.length_map]; omega) ?_
      refine ⟨rfl, _, _, congrArg (fun z => [_, _, _, some (Dv.dat (.list z)), _, _, _, _, _, _, _, _, _, _, _]) ?_⟩
      rw [flatL_step ht, hA2, hA1, hA, List.map_append]
      have lk2 : (lawKinds t).map tT = [.tuple [.str "put", .str t.1], .tuple [.str "drop", .str t.1]] ++ ((t.2.2.map PyData.str).map fun x => .tuple [.str "on", .str t.1, x]) ++ (t.2.2.map PyData.str).map fun x => .tuple [.str "off", .str t.1, x] := by
        unfold lawKinds
        rw [List.map_append, List.map_append, List.map_map, List.map_map, List.map_map, List.map_map]
        rfl
      rw [lk2]
      simp only [List.append_assoc]
    · rintro δ c ⟨rfl, y4, y13, rfl⟩
      rw [List.length_map, List.take_length, ← hKZ]
      -- found, told
      refine mz_seq (mz_parOO (by decide) (by show 5 < 15; decide) (me_propS (fun z => nomatch z) (me_var ⟨_, rfl, sortP p, rfl, me_propS (fun _ => hul) (me_var ⟨_, rfl, sortP p, rfl, ?_⟩)⟩)))
      rw [e5, e6]
      refine mz_env (δ' := [some (.mp (IsSch K C (sortP p))), some (.dat (.dict (p.map planP))), some (.dat d), some (.dat (.list (KZ.map tT))), y4, some (.own (NS.map .str)), some (.own ((sortT KZ).map tT)), x7, x8, x9, x10, x11, x12, y13, x14]) rfl ?_
      refine mz_seq (mz_if (mt_test (me_op (me_thaw (i := 5) (me_thaw (i := 6) (me_cb (ma_cons (me_lst ?_))))))))
      refine ma_cons (me_var (e := .dat (.list (NS.map .str))) (ma_cons (me_var (e := .dat (.list ((sortT KZ).map tT))) (ma_nil ⟨[.list (NS.map .str), .list ((sortT KZ).map tT)], rfl, le2, ma_nil (cd_repr fit1 ⟨True.intro, True.intro, ?_⟩)⟩))))
      refine me_cb (ma_cons (me_lst (ma_cons (me_cb (ma_cons (me_var (e := .dat (.dict (p.map planP))) (ma_nil ?_)))))))
      refine cd_sortK (ks := p.map (·.1)) (by rw [List.map_map, List.map_map] <;> rfl) (by rw [List.length_map]; omega) ?_
      rw [← hNS]
      refine ma_cons (me_cb (ma_cons (me_var (e := .dat (.list (KZ.map tT))) (ma_nil (cd_sortZ zk ?_)))))
      refine ma_nil ⟨[.list (NS.map .str), .list ((sortT KZ).map tT)], rfl, le2, ma_nil (cd_repr fit1 ?_)⟩
      refine opd_neSame ⟨_, rfl, (fun z => nomatch z), fun _ => mz_next ?_⟩
      -- columns and flags, kinds
      refine mz_seq (mz_forK (dk_var rfl hul.1 hul.2) (fun j δ c' => c' = c ∧ ∃ y4 y7 y8, δ = [some (.mp (IsSch K C (sortP p))), some (.dat (.dict (p.map planP))), some (.dat d), some (.dat (.list (KZ.map tT))), y4, some (.own (NS.map .str)), some (.own ((sortT KZ).map tT)), y7, y8, x9, x10, x11, x12, y13, x14]) ⟨rfl, _, _, _, rfl⟩ ?_ ?_)
      · rintro d2 o j q δ c' hq ⟨rfl, y4, y7, y8, rfl⟩
        obtain ⟨t, ht, rfl⟩ := get_map hq
        have tm : t ∈ p := List.mem_of_getElem? ht
        have tok := hp.tb t tm
        have lk := look_mem hp.nd tm
        have c3 := tok.c3
        refine mg_name ?_
        refine mz_seq (mz_if (mt_test (me_op (me_cb (ma_cons (me_lst ?_))))))
        refine ma_cons (sch_meth (fun z => nomatch z) (by decide +kernel) (me_var ⟨_, rfl, ma_cons (me_var (e := .dat (.str t.1)) (ma_nil ⟨rfl, col_at hp tm ?_⟩))⟩))
        refine ma_cons (sch_meth (fun z => nomatch z) (by decide +kernel) (me_var ⟨_, rfl, ma_cons (me_var (e := .dat (.str t.1)) (ma_nil ⟨rfl, col_at hp tm ?_⟩))⟩))
        refine ma_nil ⟨[.tuple (t.2.1.map colD), .tuple (t.2.2.map .str)], rfl, le2, ma_nil (cd_repr (fit_tab tok) ?_)⟩
        refine me_cb (ma_cons (me_cb (ma_cons (me_dget (me_var (e := .dat (.dict (p.map planP))) (me_var (e := .dat (.str t.1)) ⟨_, .inr t.1, _, rfl, rfl, lk, ma_nil ?_⟩))))))
        refine cd_listT (ma_nil (cd_repr (fit_tab tok) ?_))
        refine opd_neSame ⟨_, rfl, (fun z => nomatch z), fun _ => mz_next ?_⟩
        refine mz_for (mi_tup (me_op (me_dget (me_var (e := .dat (.dict (p.map planP))) (me_var (e := .dat (.str t.1)) ⟨_, .inr t.1, _, rfl, rfl, lk, me_int ?_⟩)))))
        refine opd_ixT (d := .tuple (t.2.1.map colD)) rfl ⟨_, rfl, fun j2 δ c2 => c2 = c' ∧ ∃ y7 y8, δ = [some (.mp (IsSch K C (sortP p))), some (.dat (.dict (p.map planP))), some (.dat d), some (.dat (.list (KZ.map tT))), some (.dat (.str t.1)), some (.own (NS.map .str)), some (.own ((sortT KZ).map tT)), y7, y8, x9, x10, x11, x12, y13, x14], ⟨rfl, _, _, rfl⟩, ?_, ?_⟩
        · rintro j2 x δ c2 hx ⟨rfl, y7, y8, rfl⟩
          obtain ⟨cl, hcl, rfl⟩ := get_map hx
          have cm : cl ∈ t.2.1 := List.mem_of_getElem? hcl
          refine mg_names (n := 2) (is := [7, 8]) rfl rfl ?_
          refine mz_if (mt_test (me_op (sch_meth (fun z => nomatch z) (by decide +kernel) (me_var ⟨_, rfl, ma_cons (me_var (e := .dat (.str t.1)) (ma_cons (me_var (e := .dat (.str cl.1)) (ma_nil ⟨rfl, kind_at hp tm cm ?_⟩))))⟩))))
          refine me_var (e := .dat (.str cl.2)) ?_
          exact opd_neSame ⟨_, rfl, (fun z => nomatch z), fun _ => mz_next ⟨rfl, _, _, rfl⟩⟩
        · rintro δ c2 ⟨rfl, y7, y8, rfl⟩
          exact ⟨rfl, _, _, _, rfl⟩
      · rintro δ c' ⟨rfl, y4, y7, y8, rfl⟩
        -- early, seen
        refine mz_seq (mz_setF (me_lst ?_))
        refine ma_cons (sch_meth (fun _ => hul) (by decide +kernel) (me_var ⟨_, rfl, ma_cons (me_str (ma_nil ⟨rfl, places_at hp (d := .str "k") (by simp [kinds10]) ?_⟩))⟩))
        refine ma_cons (sch_meth (fun _ => hul) (by decide +kernel) (me_var ⟨_, rfl, ma_cons (me_str (ma_nil ⟨rfl, places_at hp (d := .str "m") (by simp [kinds10]) ?_⟩))⟩))
        rw [← hPK, ← hPM]
        refine ma_nil ⟨[.list (PK.map tT), .list (PM.map tT)], rfl, le2, ?_⟩
        refine mz_seq (mz_setF (me_cb (ma_cons (me_var (e := .dat (.list [.list (PK.map tT), .list (PM.map tT)])) (ma_nil (cd_repr fit2 ?_))))))
        obtain ⟨EA, hEA⟩ : ∃ EA, EA = PyData.list [.list (PK.map tT), .list (PM.map tT)] := ⟨_, rfl⟩
        rw [← hEA] at fit2
        refine mz_env (δ' := [some (.mp (IsSch K C (sortP p))), some (.dat (.dict (p.map planP))), some (.dat d), some (.dat (.list (KZ.map tT))), y4, some (.own (NS.map .str)), some (.own ((sortT KZ).map tT)), y7, y8, some (.dat EA), some (.dat (.str EA.shown)), x11, x12, y13, x14]) (by rw [hEA] <;> rfl) ?_
        refine mz_seq (mz_for (mi_list (me_lst ?_)))
        refine ma_cons (me_str (ma_cons (me_str (ma_cons (me_str (ma_cons (me_str (ma_cons (me_non (ma_cons (me_int (ma_cons (me_tup ?_)))))))))))))
        refine ma_nil ⟨[], rfl, by show 0 ≤ 100000; decide, ma_cons (me_lst (ma_nil ⟨[], rfl, by show 0 ≤ 100000; decide, ?_⟩))⟩
        refine ma_cons (me_dnewK (ma_cons (me_bl (ma_nil ⟨kinds10, rfl, by show 10 ≤ 100000; decide, ?_⟩))))
        refine ⟨_, rfl, fun j δ c2 => c2 = c' ∧ ∃ y4 y8 y11 y12, δ = [some (.mp (IsSch K C (sortP p))), some (.dat (.dict (p.map planP))), some (.dat d), some (.dat (.list (KZ.map tT))), y4, some (.own (NS.map .str)), some (.own ((sortT KZ).map tT)), y7, y8, some (.dat EA), some (.dat (.str EA.shown)), y11, y12, y13, x14], ⟨rfl, _, _, _, _, rfl⟩, ?_, ?_⟩
        · rintro j kd δ c2 hkd ⟨rfl, y4, y8, y11, y12, rfl⟩
          have km : kd ∈ kinds10 := List.mem_of_getElem? hkd
          obtain ⟨DZ, hDZ⟩ : ∃ DZ, DZ = p.flatMap (lawDue kd) := ⟨_, rfl⟩
          have zd : Zs DZ := hDZ ▸ zs_due hp kd
          refine mg_name ?_
          refine mz_seq (mz_setF (me_lst (ma_nil ⟨[], rfl, by show 0 ≤ 100000; decide, ?_⟩)))
          refine mz_seq (mz_forK (dk_var rfl hul.1 hul.2) (fun j δ c3 => c3 = c2 ∧ ∃ y4, δ = [some (.mp (IsSch K C (sortP p))), some (.dat (.dict (p.map planP))), some (.dat d), some (.dat (.list (KZ.map tT))), y4, some (.own (NS.map .str)), some (.own ((sortT KZ).map tT)), y7, some (.dat kd), some (.dat EA), some (.dat (.str EA.shown)), some (.dat (.list (((p.take j).flatMap (lawDue kd)).map tT))), y12, y13, x14]) ⟨rfl, _, rfl⟩ ?_ ?_)
          · rintro d2 o j2 q δ c3 hq ⟨rfl, y4, rfl⟩
            obtain ⟨t, ht, rfl⟩ := get_map hq
            have tm : t ∈ p := List.mem_of_getElem? ht
            have tok := hp.tb t tm
            have lk := look_mem hp.nd tm
            have c3' := tok.c3
            have dl := due_le hp kd j2
            obtain ⟨A, hA⟩ : ∃ A, A = ((p.take j2).flatMap (lawDue kd)).map tT := ⟨_, rfl⟩
            have Al : A.length ≤ 12 := by
              rw [hA, List.length_map]
              exact dl
            rw [← hA]
            refine mg_name ?_
            refine mz_setF (me_op (me_var (e := .dat (.list A)) (me_lcT (is := [7, 14]) (mi_tup (me_op (me_dget (me_var (e := .dat (.dict (p.map planP))) (me_var (e := .dat (.str t.1)) ⟨_, .inr t.1, _, rfl, rfl, lk, me_int ?_⟩)))))))) 
            refine opd_ixT (d := .tuple (t.2.1.map colD)) rfl ⟨_, rfl, by rw [List.length_map]; omega, fun i acc c4 => c4 = c3 ∧ acc = ((t.2.1.take i).filter fun c => decide (reprText c.2 = kd.shown)).map fun c => PyData.tuple [.str t.1, .str c.1], ⟨rfl, by simp⟩, ?_, ?_⟩
            · rintro i x acc c4 hx ha ⟨rfl, rfl⟩
              obtain ⟨cl, hcl, rfl⟩ := get_map hx
              have cm : cl ∈ t.2.1 := List.mem_of_getElem? hcl
              have tk : (t.2.1.take (i + 1)).filter (fun c => decide (reprText c.2 = kd.shown)) = (t.2.1.take i).filter (fun c => decide (reprText c.2 = kd.shown)) ++ if decide (reprText cl.2 = kd.shown) = true then [cl] else [] := by
                rw [take_snoc hcl, List.filter_append]
                congr 1
                by_cases z : decide (reprText cl.2 = kd.shown) = true
                · rw [if_pos z, List.filter_cons, if_pos z] <;> rfl
                · rw [if_neg z, List.filter_cons, if_neg z] <;> rfl
              refine ⟨[.str cl.1, .str cl.2], rfl, rfl, mt_test (me_op (me_cb (ma_cons (me_var (e := .dat (.str cl.2)) (ma_nil (cd_repr (fit_name (tok.cn cl cm).2) ?_))))))⟩
              refine me_cb (ma_cons (me_var (e := .dat kd) (ma_nil (cd_repr (fit_kinds kd km) ?_))))
              refine opd_eqS ⟨_, rfl, fun z => ?_, fun z => ?_⟩
              · refine me_tup (ma_cons (me_var (e := .dat (.str t.1)) (ma_cons (me_var (e := .dat (.str cl.1)) (ma_nil ⟨[.str t.1, .str cl.1], rfl, le2, _, rfl, rfl, ?_⟩)))))
                rw [PyData.shown_str] at z
                rw [tk, if_pos z, List.map_append] <;> rfl
              · refine ⟨rfl, ?_⟩
                rw [PyData.shown_str] at z
                rw [tk, if_neg (by rw [z]; decide), List.append_nil]
            · rintro acc c4 ⟨rfl, rfl⟩
              rw [List.length_map, List.take_length]
              refine opd_cat (as := A) (by rw [List.length_map]; have h1 : (t.2.1.filter fun c => decide (reprText c.2 = kd.shown)).length ≤ t.2.1.length := List.length_filter_le ..; omega) ⟨rfl, _, congrArg (fun z => [_, _, _, _, _, _, _, _, _, _, _, some (Dv.dat (.list z)), _, _, _]) ?_⟩
              rw [flatL_step ht, hA, List.map_append]
              congr 1
              unfold lawDue
              rw [List.map_map]
              rfl
          · rintro δ c3 ⟨rfl, y4, rfl⟩
            rw [List.length_map, List.take_length, ← hDZ]
            refine mz_seq (mz_set (sch_meth (fun _ => hul) (by decide +kernel) (me_var ⟨_, rfl, ma_cons (me_var (e := .dat kd) (ma_nil ⟨rfl, places_at hp km ?_⟩))⟩)))
            rw [← hDZ]
            refine mz_env (δ' := [some (.mp (IsSch K C (sortP p))), some (.dat (.dict (p.map planP))), some (.dat d), some (.dat (.list (KZ.map tT))), y4, some (.own (NS.map .str)), some (.own ((sortT KZ).map tT)), y7, some (.dat kd), some (.dat EA), some (.dat (.str EA.shown)), some (.dat (.list (DZ.map tT))), some (.own ((sortT DZ).map tT)), y13, x14]) rfl ?_
            refine mz_seq (mz_if (mt_test (me_op (me_thaw (i := 12) (me_cb (ma_cons (me_var (e := .dat (.list ((sortT DZ).map tT))) (ma_nil (cd_repr zd.sort.fit ⟨True.intro, ?_⟩)))))))))
            refine me_cb (ma_cons (me_cb (ma_cons (me_var (e := .dat (.list (DZ.map tT))) (ma_nil (cd_sortZ zd ?_))))))
            refine ma_nil (cd_repr zd.sort.fit ?_)
            refine opd_neSame ⟨_, rfl, (fun z => nomatch z), fun _ => mz_next ?_⟩
            have := zd.sort.1
            exact mz_app (i := 12) (ds := (sortT DZ).map tT) (me_non ⟨_, rfl, by rw [List.length_map]; omega, rfl, _, _, _, _, rfl⟩)
        · rintro δ c2 ⟨rfl, y4, y8, y11, y12, rfl⟩
          refine mz_seq (mz_if (mt_test (me_op (me_cb (ma_cons (me_var (e := .dat EA) (ma_nil (cd_repr fit2 ?_))))))))
          refine me_var (e := .dat (.str EA.shown)) ?_
          refine opd_neSame ⟨_, rfl, (fun z => nomatch z), fun _ => mz_next ?_⟩
          have := zk.sort.1
          refine mz_seq (mz_app (i := 5) (ds := NS.map .str) (me_non ⟨_, rfl, by rw [List.length_map]; omega, ?_⟩))
          exact mz_app (i := 6) (ds := (sortT KZ).map tT) (me_non ⟨_, rfl, by rw [List.length_map]; omega, rfl, _, _, _, _, _, _, _, _, _, _, _, _, _, rfl⟩)
  · rintro δ b' ⟨rfl, x2, x3, x4, x5, x6, x7, x8, x9, x10, x11, x12, x13, x14, rfl⟩
    exact mz_ret (me_bl hR)
end
end K01
set_option Elab.async false
set_option linter.all false
set_option maxRecDepth 100000
set_option maxHeartbeats 4000000
namespace K01
open PySem PySem.Spec PyProof.Rows L2 Gd Evl Dl LamX
/-- _law_word, and what tells of a def with lambdas -/
structure WrT (K : PySem.W.Frag) (mg : Str → Option Value) (f : Addr) (fd : FuncData) : Prop where
  t : WdT K mg
  d : FnP K "_law_word" sWord f fd
  g : mg "_law_word" = some (.ref f)
def qR : Str := (envOfC "_law_refuses" (defScope sRefuses) 0 0 .none).qual ++ "<lambda>"
def qL : Str := (envOfC "law" (defScope sLaw) 0 0 .none).qual ++ "<lambda>"
abbrev NRf : List Str := ["pen", "schema", "plan", "turn", "has_table", "has_column", "found", "wrong", "own", "other", "odd", "table", "column", "one"]
section
variable {P : Program} {w : World} {K : PySem.W.Frag} {mg : Str → Option Value} {base : Heap} {f fW C c P1 P2 : Addr} {fd fdW : FuncData}
def spRefuses (K : PySem.W.Frag) (C : Addr) : DSpec := fun es b R _ => ∃ (b0 : Nat) (p : List Tab), es = [.pen, .mp (IsSch K C (sortP p)), .mp (PlanX K p)] ∧ PlanOk p ∧ b = b0 + 24 ∧ R (.dat (.bool true)) b0
theorem scRefuses : FnScope NRf ["pen", "schema", "plan"] (defScope sRefuses) := ⟨rfl, rfl, rfl, by decide +kernel, rfl, by decide +kernel, by decide +kernel⟩
end
end K01
set_option Elab.async false
set_option linter.all false
set_option maxRecDepth 100000
set_option maxHeartbeats 4000000
/-! the words of calls that refuse -/
namespace K01
open PySem PySem.Spec PyProof.Rows L2 Gd Evl Dl LamX
theorem isT_sort (p : List Tab) (d : PyData) : isT (sortP p) d = isT p d := by
  cases d with
  | str x =>
    show ((sortP p).map (·.1)).contains x = (p.map (·.1)).contains x
    have e := (sortP_perm p).map (·.1)
    rw [Bool.eq_iff_iff]
    simp only [List.contains_iff_mem]
    exact e.mem_iff
  | _ => rfl
theorem look_own {t : Tab} {x : Str} : (lookK (ownD t) (.inr x)).isSome = isC t (.str x) := by
  unfold lookK ownD
  rw [Option.isSome_map, List.find?_map, Option.isSome_map]
  rfl
section
variable {K : PySem.W.Frag} {B : Base} {F F' H H' : Hp} {v w : V} {e : Dv} {δ : Dl.Env} {b : Nat} {σ : L2.St} {d : PyData} {ds : List PyData} {R : Dv → Nat → Prop} {E : Ed} {p : List Tab} {t : Tab} {C : Addr} {T : List (Addr × Str)}
theorem me_wordT {tt : XK → TE} (hT : B.T = T) (h : ∀ B' : Base, B'.T = B.T → B'.free = B.free → B'.lk = B.lk → B'.pn = B.pn → BX K B' → (∀ (i : Nat) (x y : Str) (b' : Nat), errs[i]? = some x → wds[i]? = some y → R (.dat (.str y)) b' → B'.RX (He.ga K x) b') →
      Me K B' (tt B'.XE) (hideE δ) b fun _ b' => R (.dat (.str "")) b') : Me K B (tWord T K tt) δ b R := hT ▸ me_word h
theorem word_cols {i j : Nat} {m : Str} {g : Tab → PyData} (hT : B.T = T) (hm : ((schFs 0 0 0 0 0 0).lookup m).isNone = true) (hs : (hideE δ)[i]? = some (some (.mp (IsSch K C (sortP p))))) (ho : (hideE δ)[j]? = some (some (.dat d))) (hp : PlanOk p)
    (r : R (.dat (.str (if isT p d = true then "" else "table"))) b) : Me K B (tWord T K fun E => tMeth C m (spD K 2 false [] (spColumns K C g)) [] E (tVar i) (tCons (tVar j) tNil)) δ b R :=
  me_wordT hT fun B' _ _ _ _ hBX hRX => by
    refine sch_methX rfl hBX (fun z => nomatch z) hm (me_var (e := .mp (IsSch K C (sortP p))) ⟨_, rfl, ma_cons (me_var (e := .dat d) (ma_nil ⟨rfl, sortP p, d, rfl, (hp.perm (sortP_perm p)).nd, fun t ht e => ?_, fun z => ?_⟩) ho)⟩ hs)
    · have : isT p d = true := e ▸ isT_mem (mem_sortP.mp ht)
      rw [if_pos this] at r
      exact r
    · rw [isT_sort] at z
      rw [if_neg (by rw [z]; decide)] at r
      exact hRX 1 "UnknownTable" "table" b rfl rfl r
theorem word_kind {i j k : Nat} {d1 d2 : PyData} (hT : B.T = T) (hs : (hideE δ)[i]? = some (some (.mp (IsSch K C (sortP p))))) (h1 : (hideE δ)[j]? = some (some (.dat d1))) (h2 : (hideE δ)[k]? = some (some (.dat d2))) (hp : PlanOk p)
    (r0 : isT p d1 = false → R (.dat (.str "table")) b) (r1 : ∀ t ∈ p, d1 = .str t.1 → R (.dat (.str (if isC t d2 = true then "" else "column"))) b) :
    Me K B (tWord T K fun E => tMeth C "kind_of" (spD K 3 false [] (spKindOf K C)) [] E (tVar i) (tCons (tVar j) (tCons (tVar k) tNil))) δ b R :=
  me_wordT hT fun B' _ _ _ _ hBX hRX => by
    refine sch_methX rfl hBX (fun z => nomatch z) (by decide +kernel) (me_var (e := .mp (IsSch K C (sortP p))) ⟨_, rfl, ma_cons (me_var (e := .dat d1) (ma_cons (me_var (e := .dat d2) (ma_nil ⟨rfl, sortP p, d1, d2, rfl, (hp.perm (sortP_perm p)).nd, fun t ht e => ?_, fun z => ?_⟩) h2)) h1)⟩ hs)
    · have r := r1 t (mem_sortP.mp ht) e
      refine ⟨fun x y ex hf => ?_, fun z => ?_⟩
      · have : isC t d2 = true := by
          rw [ex]
          show (t.2.1.find? fun c => decide (c.1 = x)).isSome = true
          rw [hf]
          rfl
        rw [if_pos this] at r
        exact r
      · rw [if_neg (by rw [z]; decide)] at r
        exact hRX 2 "UnknownColumn" "column" b rfl rfl r
    · rw [isT_sort] at z
      exact hRX 1 "UnknownTable" "table" b rfl rfl (r0 z)
theorem word_kindT {i j k : Nat} {d2 : PyData} (hT : B.T = T) (hs : (hideE δ)[i]? = some (some (.mp (IsSch K C (sortP p))))) (h1 : (hideE δ)[j]? = some (some (.dat (.str t.1)))) (h2 : (hideE δ)[k]? = some (some (.dat d2))) (hp : PlanOk p) (tm : t ∈ p)
    (r : R (.dat (.str (if isC t d2 = true then "" else "column"))) b) : Me K B (tWord T K fun E => tMeth C "kind_of" (spD K 3 false [] (spKindOf K C)) [] E (tVar i) (tCons (tVar j) (tCons (tVar k) tNil))) δ b R :=
  word_kind hT hs h1 h2 hp (fun z => by
    rw [isT_mem tm] at z
    cases z) fun u hu e => by
    have : u = t := tab_eq hp.nd hu tm (PyData.str.inj e).symm
    rw [this]
    exact r
/-- just this -/
theorem me_just {te : TE} (x : Dv) (h : Me K B te δ b fun y b' => y = x ∧ b' = b) (r : R x b) : Me K B te δ b R := h.mono fun _ _ ⟨h1, h2⟩ => by
  rw [h1, h2]
  exact r
/-- x if k else y -/
theorem me_ifs {i : Nat} {k : Bool} {x y : Str} (hi : δ[i]? = some (some (.dat (.bool k)))) (r : R (.dat (.str (if k = true then x else y))) b) : Me K B (tIf (tB (tVar i)) (tC (.str x)) (tC (.str y))) δ b R :=
  me_if (mt_B (me_var (e := .dat (.bool k)) ⟨k, rfl, fun z => me_str (by rw [if_pos z] at r; exact r), fun z => me_str (by rw [if_neg (by rw [z]; decide)] at r; exact r)⟩ hi))
/-- a test that is False -/
theorem mz_no {c : TT} {s1 s2 : TS} (h : MT K B c δ b fun k b' => k = false ∧ b' = b) (r : Mz K B s2 δ b E) : Mz K B (tIfS c s1 s2) δ b E := mz_if (h.mono fun k b' ⟨e1, e2⟩ => by
  subst e1 e2
  exact ⟨(fun z => nomatch z), fun _ => r⟩)
theorem dk_varX {i : Nat} {P : Hp → V → Prop} {ps : List (PyData × PyData)} (h : δ[i]? = some (some (.mp (DictX K P ps)))) (f : B.free = true) (l : B.lk = []) : DkT K B (tVar i) δ b ps := fun σ F H s => by
  obtain ⟨v, h1, h2⟩ := s.get h
  obtain ⟨a, kvs, rfl, ha, hk, hd, _⟩ := mp_at h2
  exact ⟨a, kvs, ha, s.toSr.unl f l ha, hk, hd, fun o Q q => ⟨_, h1, q⟩⟩
/-- the columns of another table that are none of this one -/
def offC (t u : Tab) : List Str := (u.2.1.filter fun c => !isC t (.str c.1)).map (·.1)
theorem flag_noC {t : Tab} (h : TabOk t) : ∀ x ∈ t.2.2, isC t (.str x) = false := fun x hx => by
  have nd := h.nd
  show (t.2.1.find? fun c => decide (c.1 = x)).isSome = false
  rw [Option.isSome_eq_false_iff, Option.isNone_iff_eq_none, List.find?_eq_none]
  intro c hc z
  have e : c.1 = x := of_decide_eq_true z
  rw [List.nodup_append] at nd
  exact nd.2.2 _ (List.mem_map_of_mem (f := fun c : Str × Str => c.1) hc) x hx e
theorem offC_no {t u : Tab} : ∀ x ∈ offC t u, isC t (.str x) = false := fun x hx => by
  obtain ⟨c, hc, rfl⟩ := List.mem_map.mp hx
  simpa using (List.mem_filter.mp hc).2
end
end K01
set_option Elab.async false
set_option linter.all false
set_option maxRecDepth 100000
set_option maxHeartbeats 4000000
namespace K01
open PySem PySem.Spec PyProof.Rows L2 Gd Evl Dl LamX
section
variable {P : Program} {w : World} {K : PySem.W.Frag} {mg : Str → Option Value} {base : Heap} {f fW C c P1 P2 : Addr} {fd fdW : FuncData}
theorem ok_refuses (T : Bn mg) (hS : SysD K) (U : SchU P w K mg base C) (W : WrT K mg fW fdW) (hO : HasF P w K mg base CX0 3 "_law_odd" ["pen"] (spD K 1 false [] spOdd)) (hD : HasF P w K mg base CX0 2 "_law_draw" ["pen", "under"] spDraw)
    (F : FnP K "_law_refuses" sRefuses f fd) (tb : TabB base mg c P1) (ne : P1 ≠ P2) (hc : fd.code = .ref c) : FnG P w K mg base 8 f fd ["pen", "schema", "plan"] (spD K 3 true [(P1, qR), (P2, qL)] (spRefuses K C)) := by
  obtain ⟨fC, dC, mC, GC, bC⟩ := U.columns
  obtain ⟨fF, dF, mF, GF, bF⟩ := U.flags
  obtain ⟨fK, dK, mK, GK, bK⟩ := U.kindOf
  obtain ⟨fO, dO, gO, kO, GO, bO⟩ := hO
  obtain ⟨fD, dD, gD, kD, GD, bD⟩ := hD
  obtain ⟨T0, hT0⟩ : ∃ T0, T0 = [(P1, qR), (P2, qL)] := ⟨_, rfl⟩
  rw [← hT0]
  have inT : (P1, qR) ∈ T0 := by rw [hT0]; exact List.mem_cons_self
  have oneT : ∀ p ∈ T0, p.1 = P1 → p.2 = qR := fun p hp e => by
    rw [hT0] at hp
    simp only [List.mem_cons, List.not_mem_nil, or_false] at hp
    rcases hp with rfl | rfl
    · rfl
    · exact absurd e.symm ne
  have sc := scRefuses
  refine Gd.FunD.okG F sc (fun vs H Q E h => spD_len h) (fun cdv A outer s H vs Q hgd hr h hcode => ?_)
  rw [hc] at hcode
  subst hcode
  refine ⟨_, (pss_cons (ps_for PassesOwn.never rfl (pi_range1 rfl T.range (pa_cons pe_int pa_nil)) (pg_name (i := 3) sc.nd rfl (Or.inl rfl))
    (pss_cons (ps_set (i := 10) sc.nd rfl (Or.inr rfl) (pe_ix ix_list (pe_op op_cat (pe_lst (pa_cons (pe_call GO (hr.mono (by decide)) (by rfl) gO kO bO .nil pass0 (pa_cons (pv 0) pa_nil)) pa_nil)) (pe_lst (pa_cons (pe_lst pa_nil) (pa_cons pe_dnewK (pa_cons (pe_lst (pa_cons pe_str pa_nil)) pa_nil))))) (pe_call GD (hr.mono (by decide)) (by rfl) gD kD bD .nil pass0 (pa_cons (pv 0) (pa_cons pe_int pa_nil))) (fun _ _ => rfl)))
    (pss_cons (ps_set (i := 11) sc.nd rfl (Or.inr rfl) (pe_ix ix_list (pe_callB (call_sortedD rfl) (by rfl) T.sorted (by decide +kernel) (pa_cons (pv 2) pa_nil)) (pe_call GD (hr.mono (by decide)) (by rfl) gD kD bD .nil pass0 (pa_cons (pv 0) (pa_cons (pe_callB call_lenD (by rfl) T.len PySem.boot_len (pa_cons (pv 2) pa_nil)) pa_nil))) (fun _ _ => rfl)))
    (pss_cons (ps_set (i := 4) sc.nd rfl (Or.inl rfl) (pe_and (pe_callB call_isi (by rfl) T.isi (by decide +kernel) (pa_cons (pv 10) (pa_cons (pe_bltn (v := .ty "str") (by rfl) T.str (by decide +kernel) rfl) pa_nil))) (pe_one (pe_cmp (pc_din (hu_of hr) (pv 10) (pv 2)) (by rfl)))))
    (pss_cons (ps_set (i := 5) sc.nd rfl (Or.inl rfl) (pe_and (pe_callB call_isi (by rfl) T.isi (by decide +kernel) (pa_cons (pv 10) (pa_cons (pe_bltn (v := .ty "str") (by rfl) T.str (by decide +kernel) rfl) pa_nil))) (pe_one (pe_cmp (pc_din (hu_of hr) (pv 10) (pe_callTy (call_dictT rfl) (by rfl) T.dict (by decide +kernel) (pa_cons (pe_ix ix_tup (pe_dget (hu_of hr) (pv 2) (pv 11) (fun _ _ => rfl)) pe_int (fun _ _ => rfl)) pa_nil))) (by rfl)))))
    (pss_cons (ps_set (i := 6) sc.nd rfl (Or.inl rfl) (pe_lst (pa_cons (pe_word (T := T0) (k := 4) W.t W.d W.g (by rfl) tb rfl inT oneT (hr.mono (by decide)) (lamS_by (sc := (defScope sRefuses)) (by decide +kernel)) (by rfl) (fun _ _ _ _ _ => rfl) (fun A outer s H E f c' hr => pe_meth (pv 1) U.sc.cls mC GC (hr.mono (by decide)) bC .nil (passes_call (takes_of rfl rfl rfl rfl) (fun _ _ _ _ h => h)) (pa_cons (pv 10) pa_nil))) pa_nil)))
    (pss_cons (ps_expr (pe_bm PySem.F.plainAttrs_list PySem.F.slot_list_append rfl mt_append (pv 6) (pa_cons (pe_word (T := T0) (k := 4) W.t W.d W.g (by rfl) tb rfl inT oneT (hr.mono (by decide)) (lamS_by (sc := (defScope sRefuses)) (by decide +kernel)) (by rfl) (fun _ _ _ _ _ => rfl) (fun A outer s H E f c' hr => pe_meth (pv 1) U.sc.cls mF GF (hr.mono (by decide)) bF .nil (passes_call (takes_of rfl rfl rfl rfl) (fun _ _ _ _ h => h)) (pa_cons (pv 10) pa_nil))) pa_nil)))
    (pss_cons (ps_if (pt_cmpR (op_neD hr.units) (pv 6) (pe_op op_rep (pe_lst (pa_cons (pe_ifExp (pt_val (pv 4)) pe_str pe_str) pa_nil)) pe_int) (nomark _)) (pss_one (ps_ret pe_bl)) pss_nil)
    (pss_cons (ps_if (PW.pt (pw_and (pt_not (pt_val (pv 4))) (pw_and1 (pt_cmpR op_ne (pe_word (T := T0) (k := 4) W.t W.d W.g (by rfl) tb rfl inT oneT (hr.mono (by decide)) (lamS_by (sc := (defScope sRefuses)) (by decide +kernel)) (by rfl) (fun _ _ _ _ _ => rfl) (fun A outer s H E f c' hr => pe_meth (pv 1) U.sc.cls mK GK (hr.mono (by decide)) bK .nil (passes_call (takes_of rfl rfl rfl rfl) (fun _ _ _ _ h => h)) (pa_cons (pv 10) (pa_cons (pv 10) pa_nil)))) pe_str (nomark _))))) (pss_one (ps_ret pe_bl)) pss_nil)
    (pss_cons (ps_if (pt_cmpR op_ne (pe_word (T := T0) (k := 4) W.t W.d W.g (by rfl) tb rfl inT oneT (hr.mono (by decide)) (lamS_by (sc := (defScope sRefuses)) (by decide +kernel)) (by rfl) (fun _ _ _ _ _ => rfl) (fun A outer s H E f c' hr => pe_meth (pv 1) U.sc.cls mK GK (hr.mono (by decide)) bK .nil (passes_call (takes_of rfl rfl rfl rfl) (fun _ _ _ _ h => h)) (pa_cons (pv 11) (pa_cons (pv 10) pa_nil)))) (pe_ifExp (pt_val (pv 5)) pe_str pe_str) (nomark _)) (pss_one (ps_ret pe_bl)) pss_nil)
    (pss_cons (ps_asg (pe_tup (pa_cons (pe_callTy call_list_of (by rfl) T.list (by decide +kernel) (pa_cons (pe_ix ix_tup (pe_dget (hu_of hr) (pv 2) (pv 11) (fun _ _ => rfl)) pe_int (fun _ _ => rfl)) pa_nil)) (pa_cons (pe_callTy (call_dictT rfl) (by rfl) T.dict (by decide +kernel) (pa_cons (pe_ix ix_tup (pe_dget (hu_of hr) (pv 2) (pv 11) (fun _ _ => rfl)) pe_int (fun _ _ => rfl)) pa_nil)) pa_nil))) (pg_tup rfl (pgs_cons (pg_name (i := 7) sc.nd rfl (Or.inl rfl)) (pgs_cons (pg_name (i := 8) sc.nd rfl (Or.inr rfl)) pgs_nil))))
    (pss_cons (ps_lock (ps_for PassesOwn.never rfl (pi_keys (pv 2)) (pg_name (i := 9) sc.nd rfl (Or.inl rfl))
    (pss_one (ps_set (i := 7) sc.nd rfl (Or.inl rfl) (pe_op op_cat (pv 7) (pe_lc (own := [("column", 12)]) (g := gName 12) rfl sc.nd (pi_tup (pe_ix ix_tup (pe_dget (hu_of hr) (pv 2) (pv 9) (fun _ _ => rfl)) pe_int (fun _ _ => rfl))) (blkOk_by (N := NRf) (sc := defScope sRefuses) (by decide +kernel)) (fun _ _ _ _ _ => pg_name (i := 12) sc.nd rfl (Or.inl rfl)) (fun _ _ _ _ _ => pts_one (pt_cmp (pc_dnotin (hu_of hr) (pe_ix (r := rIxT K) (by exact ix_tup) (pv 12) pe_int (fun _ _ => rfl)) (pv 8)) (by rfl))) (fun _ _ _ _ _ => (pe_ix (r := rIxT K) (by exact ix_tup) (pv 12) pe_int (fun _ _ => rfl)))))))))
    (pss_one (ps_if (pt_not (pt_val (pe_callB (cr_all rfl) (by rfl) T.all (by decide +kernel) (pa_cons (pe_lc (own := [("one", 13)]) (g := gName 13) (tt := tYes) rfl sc.nd (pi_list (pv 7)) (blkOk_by (N := NRf) (sc := defScope sRefuses) (by decide +kernel)) (fun _ _ _ _ _ => pg_name (i := 13) sc.nd rfl (Or.inr rfl)) (fun _ _ _ _ _ => pts_nil) (fun _ _ _ _ _ => (pe_cmpR op_eq (show PE _ _ (tWord T0 K (fun E => tMeth C "kind_of" (spD K 3 false [] (spKindOf K C)) [] E (tVar 1) (tCons (tVar 11) (tCons (tVar 13) tNil)))) from by exact (pe_word (T := T0) (k := 4) W.t W.d W.g (by rfl) tb rfl inT oneT (hr.mono (by decide)) (lamS_by (sc := (relS _ (defScope sRefuses))) (by decide +kernel)) (by rfl) (fun _ _ _ _ _ => rfl) (fun A outer s H E f c' hr => pe_meth (pv 1) U.sc.cls mK GK (hr.mono (by decide)) bK .nil (passes_call (takes_of rfl rfl rfl rfl) (fun _ _ _ _ h => h)) (pa_cons (pv 11) (pa_cons (pv 13) pa_nil))))) pe_str (nomark _)))) pa_nil)))) (pss_one (ps_ret pe_bl)) pss_nil))))))))))))))
    (pss_one (ps_ret pe_bl))), ?_⟩
  refine spD_enter h (by decide) fun B b es R he hT hu hX hBX ⟨b0, p, e, hp, hb, hR⟩ => ?_
  subst e
  have hul := hu (by rfl)
  have hT' : B.T = T0 := hT
  have n1 := hp.n1
  have n4 := hp.n4
  have asP : ∀ F v, PlanX K p F v → Dq K F v (.dict (p.map planP)) := fun F v h => DictX.dq h
  subst hb
  refine mz_seq (mz_for (mi_rng (ma_cons (me_int (ma_nil ⟨8, rfl, by decide, by decide, fun i δ b' => b0 + 3 * (8 - i) ≤ b' ∧ ∃ x3 x4 x5 x6 x7 x8 x9 x10 x11 x12 x13, δ = [some .pen, some (.mp (IsSch K C (sortP p))), some (.mp (PlanX K p)), x3, x4, x5, x6, x7, x8, x9, x10, x11, x12, x13], ⟨by omega, none, none, none, none, none, none, none, none, none, none, none, rfl⟩, ?_, ?_⟩)))))
  · rintro i d δ c hi ⟨hb, x3, x4, x5, x6, x7, x8, x9, x10, x11, x12, x13, rfl⟩
    have hil : i < 8 := by
      have := (List.getElem?_eq_some_iff.mp hi).1
      rw [intsD_len] at this
      exact this
    obtain ⟨c0, hc0⟩ : ∃ c0, c0 = b0 + 3 * (8 - (i + 1)) := ⟨_, rfl⟩
    refine mg_name (mz_less (n := c0 + 3) (by omega) ?_)
    -- odd
    refine mz_seq (mz_setF (me_op (me_op (me_lst (ma_cons (me_call (.inl rfl) (fun z => nomatch z) (ma_cons (me_var (e := .pen) (ma_nil ⟨rfl, c0 + 2, rfl, rfl, fun o ho => ?_⟩)))))))))
    refine ma_nil ⟨[o], rfl, le1, me_lst ?_⟩
    refine ma_cons (me_lst (ma_nil ⟨[], rfl, by show 0 ≤ 100000; decide, ?_⟩))
    refine ma_cons (me_dnewK (ma_cons (me_lst (ma_cons (me_str ?_)))))
    refine ma_nil ⟨[.str "id"], rfl, le1, ma_nil ⟨[.list [], .dict [], .list [.str "id"]], rfl, le3, ?_⟩⟩
    refine opd_cat (as := [o]) (bs := [.list [], .dict [], .list [.str "id"]]) (by show 1 + 3 ≤ 100000; decide) ?_
    refine me_callV (ma_cons (me_var (e := .pen) (ma_cons (me_int (ma_nil ?_)))))
    refine cd_draw (b := c0 + 1) (by decide) (by decide) fun g g0 g1 => ?_
    obtain ⟨j, rfl⟩ : ∃ j : Nat, g = (j : Int) := ⟨g.toNat, by omega⟩
    obtain ⟨odd, hodd⟩ : ∃ odd, ([o] ++ [.list [], .dict [], .list [.str "id"]] : List PyData)[j]? = some odd := ⟨_, List.getElem?_eq_getElem (by show j < 4; omega)⟩
    refine opd_ixL (d := odd) (atI_at rfl hodd) ?_
    -- table
    refine mz_seq (mz_setF (me_op (me_cb (ma_cons (me_as (P := PlanX K p) rfl asP (ma_nil ?_))))))
    refine cd_sortK (ks := p.map (·.1)) (by rw [List.map_map, List.map_map] <;> rfl) (by rw [List.length_map]; omega) ?_
    refine me_callV (ma_cons (me_var (e := .pen) (ma_cons (me_cb (ma_cons (me_as (P := PlanX K p) rfl asP (ma_nil ?_)))))))
    refine cd_lenK hul (ma_nil ?_)
    refine cd_draw (b := c0) (by rw [List.length_map]; omega) (by rw [List.length_map]; omega) fun g2 g20 g21 => ?_
    rw [List.length_map] at g21
    obtain ⟨j2, rfl⟩ : ∃ j : Nat, g2 = (j : Int) := ⟨g2.toNat, by omega⟩
    have jl : j2 < (sortS (p.map (·.1))).length := by
      rw [(sortS_perm _).length_eq, List.length_map]
      omega
    obtain ⟨t, tm, ht⟩ : ∃ t ∈ p, t.1 = (sortS (p.map (·.1)))[j2] := by
      have := (sortS_perm (p.map (·.1))).mem_iff.mp (List.getElem_mem jl)
      obtain ⟨t, a, b⟩ := List.mem_map.mp this
      exact ⟨t, a, b⟩
    have tok := hp.tb t tm
    have lk := look_mem hp.nd tm
    have f2 := tok.f2
    refine opd_ixL (d := .str t.1) (atI_at (j := j2) rfl (by rw [List.getElem?_map, List.getElem?_eq_getElem jl, ht] <;> rfl)) ?_
    refine mz_env (δ' := [some .pen, some (.mp (IsSch K C (sortP p))), some (.mp (PlanX K p)), some (.dat d), x4, x5, x6, x7, x8, x9, some (.dat odd), some (.dat (.str t.1)), x12, x13]) rfl ?_
    -- has_table, has_column
    obtain ⟨HT, hHT⟩ : ∃ HT, HT = isT p odd := ⟨_, rfl⟩
    obtain ⟨HC, hHC⟩ : ∃ HC, HC = isC t odd := ⟨_, rfl⟩
    refine mz_seq (mz_setF (me_just (.dat (.bool HT)) (me_and (me_isi (me_var (e := .dat odd) ⟨odd, rfl, _, rfl, fun k => ?_, fun k => ?_⟩))) ?_))
    · obtain ⟨x, rfl⟩ := ty_is (d := odd) (of_decide_eq_true k)
      exact me_din (me_var (e := .dat (.str x)) (me_as (P := PlanX K p) rfl asP ⟨_, .inr x, rfl, rfl, by rw [look_isSome, hHT], rfl⟩))
    · rw [hHT, isT_no (of_decide_eq_false k)]
      exact ⟨rfl, rfl⟩
    refine mz_seq (mz_setF (me_just (.dat (.bool HC)) (me_and (me_isi (me_var (e := .dat odd) ⟨odd, rfl, _, rfl, fun k => ?_, fun k => ?_⟩))) ?_))
    · obtain ⟨x, rfl⟩ := ty_is (d := odd) (of_decide_eq_true k)
      exact me_din (me_var (e := .dat (.str x)) (me_dictPlan rfl rfl hp.nd tm tok ⟨_, .inr x, rfl, rfl, by rw [look_own, hHC], rfl⟩))
    · have : isC t odd = false := by
        cases odd with
        | str x => exact absurd rfl (of_decide_eq_false k)
        | _ => rfl
      rw [hHC, this]
      exact ⟨rfl, rfl⟩
    -- found
    obtain ⟨w1, hw1⟩ : ∃ w1 : Str, w1 = if HT = true then Str.ofString "" else Str.ofString "table" := ⟨_, rfl⟩
    have w1l : (PyData.str w1).canLay0 = true := by
      rw [hw1]
      split <;> decide +kernel
    refine mz_seq (mz_set (me_lst (ma_cons (word_cols hT' (by decide +kernel) rfl rfl hp ?_))))
    rw [← hHT, ← hw1]
    refine ma_nil ⟨[.str w1], rfl, le1, ?_⟩
    refine mz_seq (mz_app (i := 6) (ds := [.str w1]) (word_cols hT' (by decide +kernel) rfl rfl hp ?_))
    rw [← hHT, ← hw1]
    refine ⟨.str w1, rfl, by show 1 < 100000; decide, ?_⟩
    refine mz_env (δ' := [some .pen, some (.mp (IsSch K C (sortP p))), some (.mp (PlanX K p)), some (.dat d), some (.dat (.bool HT)), some (.dat (.bool HC)), some (.own [.str w1, .str w1]), x7, x8, x9, some (.dat odd), some (.dat (.str t.1)), x12, x13]) rfl ?_
    refine mz_seq (mz_no (mt_test (me_thaw (i := 6) (me_op (me_var (e := .dat (.list [.str w1, .str w1])) (me_op (me_lst (ma_cons (me_ifs (k := HT) rfl ?_)))))))) (mz_next ?_))
    · rw [← hw1]
      refine ma_nil ⟨[.str w1], rfl, le1, me_int ?_⟩
      refine opd_rep (n := 2) (by decide) (by decide) (by show 1 ≤ 100; decide) ?_
      exact opd_neStrs (xs := [w1, w1]) (fun x hx => by
        simp only [List.mem_cons, List.not_mem_nil, or_false] at hx
        rcases hx with rfl | rfl <;> exact w1l) ⟨True.intro, false, rfl, rfl, rfl⟩
    -- kind_of(odd, odd)
    refine mz_seq (mz_no ?_ (mz_next ?_))
    · refine mt_and (mt_not (mt_B ?_))
      refine me_var (e := .dat (.bool HT)) ⟨HT, rfl, fun k => ?_, fun _ => ⟨rfl, rfl⟩⟩
      refine mt_test (me_op (word_kind hT' rfl rfl rfl hp (fun _ => ?_) fun u hu e => ?_))
      · exact me_str (opd_neSame ⟨_, rfl, rfl, rfl⟩)
      · have : HT = true := by rw [hHT, e, isT_mem hu]
        rw [this] at k
        cases k
    -- kind_of(table, odd)
    obtain ⟨w2, hw2⟩ : ∃ w2 : Str, w2 = if HC = true then Str.ofString "" else Str.ofString "column" := ⟨_, rfl⟩
    refine mz_seq (mz_no (mt_test (me_op (word_kindT (t := t) hT' rfl rfl rfl hp tm ?_))) (mz_next ?_))
    · rw [← hHC, ← hw2]
      refine me_ifs (k := HC) rfl ?_
      rw [← hw2]
      exact opd_neSame ⟨_, rfl, rfl, rfl⟩
    -- wrong, own
    refine mz_seq (mz_asg (me_tup (ma_cons (me_cb (ma_cons (me_op (me_dget (me_as (P := PlanX K p) rfl asP (me_var (e := .dat (.str t.1)) ⟨_, .inr t.1, _, rfl, rfl, lk, me_int ?_⟩)))))))))
    refine opd_ixT (d := .tuple (t.2.2.map .str)) rfl (ma_nil (cd_listT (ma_cons (me_dictPlan rfl rfl hp.nd tm tok ?_))))
    refine ma_nil ⟨[.list (t.2.2.map .str), .dict (ownD t)], rfl, le2, mg_names (n := 2) (is := [7, 8]) rfl rfl ?_⟩
    refine mz_env (δ' := [some .pen, some (.mp (IsSch K C (sortP p))), some (.mp (PlanX K p)), some (.dat d), some (.dat (.bool HT)), some (.dat (.bool HC)), some (.own [.str w1, .str w1]), some (.dat (.list (t.2.2.map .str))), some (.dat (.dict (ownD t))), x9, some (.dat odd), some (.dat (.str t.1)), x12, x13]) rfl ?_
    refine mz_seq (mz_forK (dk_varX rfl hul.1 hul.2) (fun j δ c' => c' = c0 ∧ ∃ (y9 : Option Dv) (W : List Str), δ = [some .pen, some (.mp (IsSch K C (sortP p))), some (.mp (PlanX K p)), some (.dat d), some (.dat (.bool HT)), some (.dat (.bool HC)), some (.own [.str w1, .str w1]), some (.dat (.list (W.map .str))), some (.dat (.dict (ownD t))), y9, some (.dat odd), some (.dat (.str t.1)), x12, x13] ∧ W.length ≤ 2 + 3 * j ∧ ∀ x ∈ W, isC t (.str x) = false) ⟨rfl, x9, t.2.2, rfl, by omega, flag_noC tok⟩ ?_ ?_)
    · rintro d2 o2 j3 q δ c' hq ⟨rfl, y9, W, rfl, hW, hno⟩
      obtain ⟨u, hu, rfl⟩ := get_map hq
      have um : u ∈ p := List.mem_of_getElem? hu
      have uok := hp.tb u um
      have ulk := look_mem hp.nd um
      have uc := uok.c3
      have jl2 : j3 < 4 := by
        have := (List.getElem?_eq_some_iff.mp hu).1
        omega
      have offl : (offC t u).length ≤ 3 := by
        unfold offC
        rw [List.length_map]
        have h1 : (u.2.1.filter fun c => !isC t (.str c.1)).length ≤ u.2.1.length := List.length_filter_le ..
        omega
      refine mg_name ?_
      refine mz_setF (me_op (me_var (e := .dat (.list (W.map .str))) (me_filter (j := 12) (mi_tup (me_op (me_dget (me_as (P := PlanX K p) rfl asP (me_var (e := .dat (.str u.1)) ⟨_, .inr u.1, _, rfl, rfl, ulk, me_int ?_⟩))))))))
      refine opd_ixT (d := .tuple (u.2.1.map colD)) rfl ⟨_, rfl, by rw [List.length_map]; omega, (fun d => match d with | .tuple (.str x :: _) => !isC t (.str x) | _ => false), (fun d => match d with | .tuple (x :: _) => x | _ => d), fun x hx => ?_, fun x hx _ => ?_, ?_⟩
      · obtain ⟨cl, hcl, rfl⟩ := List.mem_map.mp hx
        refine mt_B (me_dnotin (me_op (me_var (e := .dat (colD cl)) (me_int ?_))))
        refine opd_ixT (ds := [.str cl.1, .str cl.2]) (d := .str cl.1) atI0 (me_var (e := .dat (.dict (ownD t))) ⟨ownD t, .inr cl.1, rfl, rfl, _, rfl, ?_, rfl⟩)
        rw [look_own]
        rfl
      · obtain ⟨cl, hcl, rfl⟩ := List.mem_map.mp hx
        refine me_op (me_var (e := .dat (colD cl)) (me_int ?_))
        exact opd_ixT (ds := [.str cl.1, .str cl.2]) (d := .str cl.1) atI0 ⟨rfl, rfl⟩
      · have e : (((u.2.1.map colD).filter (fun d => match d with | .tuple (.str x :: _) => !isC t (.str x) | _ => false)).map (fun d => match d with | .tuple (x :: _) => x | _ => d)) = (offC t u).map .str := by
          unfold offC
          rw [List.filter_map, List.map_map, List.map_map]
          rfl
        rw [e]
        refine opd_cat (as := W.map .str) (bs := (offC t u).map .str) (by rw [List.length_map, List.length_map]; omega) ⟨rfl, _, W ++ offC t u, congrArg (fun z => [_, _, _, _, _, _, _, some (Dv.dat (.list z)), _, _, _, _, _, _]) (List.map_append ..).symm, by rw [List.length_append]; omega, fun x hx => ?_⟩
        rcases List.mem_append.mp hx with hx | hx
        · exact hno x hx
        · exact offC_no x hx
    · rintro δ c' ⟨rfl, y9, W, rfl, hW, hno⟩
      rw [List.length_map] at hW
      refine mz_no (mt_not (mt_B (me_cb (ma_cons (me_map (j := 13) (mi_list (me_var (e := .dat (.list (W.map .str))) ⟨_, rfl, by rw [List.length_map]; omega, fun _ => .bool true, fun x hx => ?_, ?_⟩))))))) ?_
      · obtain ⟨z, hz, rfl⟩ := List.mem_map.mp hx
        refine me_op (word_kindT (t := t) (d2 := .str z) hT' rfl rfl rfl hp tm ?_)
        rw [if_neg (by rw [hno z hz]; decide)]
        exact me_str (opd_eqSame ⟨rfl, rfl⟩)
      · refine ma_nil ?_
        rw [show Dv.fz (.own ((W.map PyData.str).map fun _ => PyData.bool true)) = .dat (.list ((W.map fun _ => true).map .bool)) from by
          rw [List.map_map, List.map_map] <;> rfl]
        refine cd_all ⟨_, rfl, ?_, rfl⟩
        simp
      · refine mz_next ⟨by omega, _, _, _, _, _, _, _, _, _, _, _, rfl⟩
  · rintro δ c ⟨hb, x3, x4, x5, x6, x7, x8, x9, x10, x11, x12, x13, rfl⟩
    rw [intsD_len] at hb
    exact mz_less (n := b0) (by omega) (mz_ret (me_bl hR))
end
end K01
set_option Elab.async false
set_option linter.all false
set_option maxRecDepth 100000
set_option maxHeartbeats 4000000
/-! tables put together: dict(pairs), and when they are equal -/
namespace K01
open PySem PySem.Spec PyProof.Rows L2 Gd Evl Dl LamX
theorem eqv_str (x y : Str) : PyData.eqv (.str x) (.str y) = decide (x = y) := by
  simp only [PyData.eqv]
  by_cases q : x = y
  · rw [decide_eq_true q, q, beq_self_eq_true]
  · rw [decide_eq_false q, beq_eq_false_iff_ne]
    exact q
theorem eqv_col (c d : Str × Str) : PyData.eqv (colD c) (colD d) = true ↔ c = d := by
  show PyData.eqv (.tuple [.str c.1, .str c.2]) (.tuple [.str d.1, .str d.2]) = true ↔ c = d
  simp only [PyData.eqv, PyData.eqvAll, Bool.and_true, Bool.and_eq_true, beq_iff_eq]
  exact ⟨fun h => Prod.ext h.1 h.2, fun h => by rw [h]; exact ⟨rfl, rfl⟩⟩
theorem eqv_map {α : Type} {f : α → PyData} (h : ∀ a b, PyData.eqv (f a) (f b) = true ↔ a = b) : ∀ as bs : List α, PyData.eqvAll (as.map f) (bs.map f) = true ↔ as = bs
  | [], [] => by simp [PyData.eqvAll]
  | [], b :: bs => by simp [PyData.eqvAll]
  | a :: as, [] => by simp [PyData.eqvAll]
  | a :: as, b :: bs => by
    rw [List.map_cons, List.map_cons, PyData.eqvAll, Bool.and_eq_true, h a b, eqv_map h as bs]
    exact ⟨fun z => by rw [z.1, z.2], fun z => by cases z; exact ⟨rfl, rfl⟩⟩
theorem eqv_tab (t u : List (Str × Str) × List Str) : PyData.eqv (tabD t) (tabD u) = true ↔ t = u := by
  show PyData.eqv (.tuple [.tuple (t.1.map colD), .tuple (t.2.map .str)]) (.tuple [.tuple (u.1.map colD), .tuple (u.2.map .str)]) = true ↔ t = u
  have e : PyData.eqv (.tuple [.tuple (t.1.map colD), .tuple (t.2.map .str)]) (.tuple [.tuple (u.1.map colD), .tuple (u.2.map .str)]) = (PyData.eqvAll (t.1.map colD) (u.1.map colD) && PyData.eqvAll (t.2.map .str) (u.2.map .str)) := by
    simp only [PyData.eqv, PyData.eqvAll, Bool.and_true]
  rw [e, Bool.and_eq_true, eqv_map eqv_col, eqv_map (f := PyData.str) fun a b => by rw [eqv_str, decide_eq_true_eq]]
  exact ⟨fun h => Prod.ext h.1 h.2, fun h => by rw [h]; exact ⟨rfl, rfl⟩⟩
theorem atK_tab {q : List Tab} (nd : (q.map (·.1)).Nodup) (x : Str) : (∃ u ∈ q, u.1 = x ∧ atK (q.map planK) (.inr x) = some (tabD u.2)) ∨ (x ∉ q.map (·.1) ∧ atK (q.map planK) (.inr x) = none) := by
  induction q with
  | nil => exact .inr ⟨by simp, rfl⟩
  | cons a r ih =>
    rw [List.map_cons, List.nodup_cons] at nd
    unfold atK at ih ⊢
    rw [List.map_cons, List.find?_cons]
    by_cases h : a.1 = x
    · have : decide ((planK a).1 = Sum.inr x) = true := decide_eq_true (by show (Sum.inr a.1 : Key) = .inr x; rw [h])
      rw [this]
      exact .inl ⟨a, List.mem_cons_self, h, rfl⟩
    · have : decide ((planK a).1 = Sum.inr x) = false := decide_eq_false fun z => h (Sum.inr.inj z)
      rw [this]
      rcases ih nd.2 with ⟨u, hu, e, z⟩ | ⟨n, z⟩
      · exact .inl ⟨u, List.mem_cons_of_mem _ hu, e, z⟩
      · refine .inr ⟨fun m => ?_, z⟩
        rw [List.map_cons, List.mem_cons] at m
        rcases m with m | m
        · exact h m.symm
        · exact n m
/-- whether tables are equal as dicts -/
def eqP (p q : List Tab) : Bool := eqK (p.map planK) (q.map planK)
theorem eqP_iff {p q : List Tab} (nq : (q.map (·.1)).Nodup) : eqP p q = true ↔ p.length = q.length ∧ ∀ t ∈ p, t ∈ q := by
  unfold eqP eqK
  rw [Bool.and_eq_true, decide_eq_true_eq, List.length_map, List.length_map, List.all_eq_true]
  refine and_congr Iff.rfl ⟨fun h t ht => ?_, fun h x hx => ?_⟩
  · have := h (planK t) (List.mem_map_of_mem ht)
    rcases atK_tab nq t.1 with ⟨u, hu, e, z⟩ | ⟨_, z⟩
    · rw [show (planK t).1 = Sum.inr t.1 from rfl, z] at this
      have e2 : t.2 = u.2 := (eqv_tab t.2 u.2).mp this
      have : t = u := Prod.ext e.symm e2
      rw [this]
      exact hu
    · rw [show (planK t).1 = Sum.inr t.1 from rfl, z] at this
      cases this
  · obtain ⟨t, ht, rfl⟩ := List.mem_map.mp hx
    have tm := h t ht
    rcases atK_tab nq t.1 with ⟨u, hu, e, z⟩ | ⟨n, _⟩
    · rw [show (planK t).1 = Sum.inr t.1 from rfl, z]
      have : u = t := tab_eq nq hu tm e
      rw [this]
      exact (eqv_tab t.2 t.2).mpr rfl
    · exact absurd (List.mem_map_of_mem (f := fun x : Tab => x.1) tm) n
theorem nd_tabs {p : List Tab} (h : (p.map (·.1)).Nodup) : p.Nodup := by
  refine List.Pairwise.imp ?_ (List.pairwise_map.mp h)
  intro a b n e
  exact n (by rw [e])
theorem eqP_symm {p q : List Tab} (np : (p.map (·.1)).Nodup) (nq : (q.map (·.1)).Nodup) : eqP p q = eqP q p := by
  have go : ∀ {p q : List Tab}, (p.map (·.1)).Nodup → (q.map (·.1)).Nodup → eqP p q = true → eqP q p = true := fun {p q} np nq h => by
    obtain ⟨l, s⟩ := (eqP_iff nq).mp h
    refine (eqP_iff np).mpr ⟨l.symm, fun t ht => ?_⟩
    by_cases m : t ∈ p
    · exact m
    · have := pigeon (l := t :: p) (xs := q) (List.nodup_cons.mpr ⟨m, nd_tabs np⟩) fun x hx => by
        rcases List.mem_cons.mp hx with rfl | hx
        · exact ht
        · exact s x hx
      rw [List.length_cons] at this
      omega
  rw [Bool.eq_iff_iff]
  exact ⟨go np nq, go nq np⟩
/-! dict(pairs) -/
def putT (acc : List Tab) (t : Tab) : List Tab := if (acc.any fun u => decide (u.1 = t.1)) = true then acc.map (fun u => if u.1 = t.1 then (u.1, t.2) else u) else acc ++ [t]
def mergeP (l : List Tab) : List Tab := l.foldl putT []
theorem putT_len (acc : List Tab) (t : Tab) : acc.length ≤ (putT acc t).length ∧ (putT acc t).length ≤ acc.length + 1 := by
  unfold putT
  split
  · rw [List.length_map]
    omega
  · rw [List.length_append, List.length_singleton]
    omega
theorem putT_names {acc : List Tab} {t : Tab} (nd : (acc.map (·.1)).Nodup) : ((putT acc t).map (·.1)).Nodup := by
  unfold putT
  split
  · have : (acc.map fun u => if u.1 = t.1 then (u.1, t.2) else u).map (·.1) = acc.map (·.1) := by
      rw [List.map_map]
      refine List.map_congr_left fun u _ => ?_
      show (if u.1 = t.1 then (u.1, t.2) else u).1 = u.1
      split <;> rfl
    rw [this]
    exact nd
  · rename_i h
    rw [List.map_append]
    refine List.nodup_append.mpr ⟨nd, by simp, fun a ha c hc z => ?_⟩
    have hc' : c = t.1 := by simpa using hc
    rw [z, hc'] at ha
    obtain ⟨u, hu, e⟩ := List.mem_map.mp ha
    exact h (List.any_eq_true.mpr ⟨u, hu, decide_eq_true e⟩)
theorem putT_mem {acc : List Tab} {t : Tab} : ∀ x ∈ putT acc t, x = t ∨ x ∈ acc := by
  unfold putT
  intro x hx
  split at hx
  · obtain ⟨u, hu, rfl⟩ := List.mem_map.mp hx
    by_cases e : u.1 = t.1
    · rw [if_pos e]
      exact .inl (Prod.ext e rfl)
    · rw [if_neg e]
      exact .inr hu
  · rcases List.mem_append.mp hx with hx | hx
    · exact .inr hx
    · exact .inl (by simpa using hx)
theorem fold_all : ∀ (l acc : List Tab), (acc.map (·.1)).Nodup → ((l.foldl putT acc).map (·.1)).Nodup ∧ acc.length ≤ (l.foldl putT acc).length ∧ (l.foldl putT acc).length ≤ acc.length + l.length ∧ ∀ x ∈ l.foldl putT acc, x ∈ l ∨ x ∈ acc
  | [], acc, nd => ⟨nd, Nat.le_refl _, Nat.le_refl _, fun x hx => .inr hx⟩
  | t :: r, acc, nd => by
    obtain ⟨a, b, c, d⟩ := fold_all r (putT acc t) (putT_names nd)
    have l := putT_len acc t
    refine ⟨a, by rw [List.foldl_cons]; omega, by rw [List.foldl_cons, List.length_cons]; omega, fun x hx => ?_⟩
    rcases d x hx with h | h
    · exact .inl (List.mem_cons_of_mem _ h)
    · rcases putT_mem x h with h | h
      · exact .inl (h ▸ List.mem_cons_self)
      · exact .inr h
theorem mergeP_ok {l : List Tab} (h : ∀ t ∈ l, TabOk t) (ne : l ≠ []) (n4 : (mergeP l).length ≤ 4) : PlanOk (mergeP l) := by
  obtain ⟨a, _, _, d⟩ := fold_all l [] List.nodup_nil
  refine ⟨?_, n4, fun t ht => ?_, a⟩
  · match l, ne with
    | t :: r, _ =>
      have q := (fold_all r (putT [] t) (putT_names List.nodup_nil)).2.1
      exact q
  · rcases d t ht with z | z
    · exact h t z
    · cases z
theorem mergeP_len (l : List Tab) : (mergeP l).length ≤ l.length := by
  have := (fold_all l [] List.nodup_nil).2.2.1
  rw [List.length_nil] at this
  unfold mergeP
  omega
theorem fold_id : ∀ (l acc : List Tab), ((acc ++ l).map (·.1)).Nodup → l.foldl putT acc = acc ++ l
  | [], acc, _ => by simp
  | t :: r, acc, nd => by
    have n : ¬ (acc.any fun u => decide (u.1 = t.1)) = true := fun z => by
      obtain ⟨u, hu, e⟩ := List.any_eq_true.mp z
      rw [List.map_append, List.nodup_append] at nd
      exact nd.2.2 _ (List.mem_map_of_mem (f := fun x : Tab => x.1) hu) t.1 (by simp) (of_decide_eq_true e)
    have e : putT acc t = acc ++ [t] := by
      unfold putT
      rw [if_neg n]
    have e2 : acc ++ [t] ++ r = acc ++ t :: r := by simp
    rw [List.foldl_cons, e, fold_id r _ (by rw [e2]; exact nd), e2]
theorem mergeP_put {p : List Tab} (hp : (p.map (·.1)).Nodup) (t : Tab) : mergeP (p ++ [t]) = putT p t := by
  unfold mergeP
  rw [List.foldl_append, fold_id p [] (by rw [List.nil_append]; exact hp)]
  rfl
theorem putT_in {p : List Tab} {t : Tab} (h : t.1 ∈ p.map (·.1)) : (putT p t).length = p.length := by
  unfold putT
  have : (p.any fun u => decide (u.1 = t.1)) = true := by
    obtain ⟨u, hu, e⟩ := List.mem_map.mp h
    exact List.any_eq_true.mpr ⟨u, hu, decide_eq_true e⟩
  rw [if_pos this, List.length_map]
section
variable {K : PySem.W.Frag} {B : Base} {F F' H H' : Hp} {v w : V} {e : Dv} {δ : Dl.Env} {b : Nat} {σ : L2.St} {d : PyData} {ds : List PyData} {ta tb te : TE} {R : Dv → Nat → Prop} {E : Ed} {p : List Tab} {t : Tab}
abbrev rDictP (K : PySem.W.Frag) : List V → Hp → VK → Prop := fun xs H Q => ∃ (a : Addr) (ps : List Addr) (kvs : List (Key × V)), xs = [.ref a] ∧ SqL K H a (ps.map V.ref) ∧ Paired (fun p kv => SqT K H p [kV kv.1, kv.2]) ps kvs ∧ ∀ p, H p = none → Q (.ref p) (upd H p (.dK (mergeK [] kvs)))
def pairD (t : Tab) : PyData := .tuple [.str t.1, tabD t.2]
theorem pairs_tabs : ∀ {l : List Tab} {vs : List V}, DqAll K F vs (l.map pairD) → ∃ (as : List Addr) (kvs : List (Key × V)), vs = as.map V.ref ∧ Paired (fun (p : Addr) (kv : Key × V) => Rd F p (.tup [kV kv.1, kv.2])) as kvs ∧ kvs.map (·.1) = l.map (fun t => (Sum.inr t.1 : Key)) ∧ DqAll K F (kvs.map (·.2)) (l.map fun t => tabD t.2)
  | [], _, h => by
    cases h
    exact ⟨[], [], rfl, .nil, rfl, .nil⟩
  | c :: r, _, h => by
    cases h with
    | cons h1 h2 =>
      obtain ⟨as, kvs, e, q, e2, q2⟩ := pairs_tabs h2
      cases h1 with
      | @tup a ws _ hr hd =>
        cases hd with
        | @cons v1 _ _ _ a1 a2 =>
          cases a2 with
          | @cons v2 _ _ _ a3 a4 =>
            cases a1
            cases a4
            exact ⟨a :: as, (.inr c.1, v2) :: kvs, by rw [e] <;> rfl, .cons hr q, by rw [List.map_cons, List.map_cons, e2], .cons a3 q2⟩
theorem paired_lk2 {as : List Addr} {kvs : List (Key × V)} (lk : Lk F H) (h : Paired (fun (p : Addr) (kv : Key × V) => Rd F p (.tup [kV kv.1, kv.2])) as kvs) : Paired (fun p kv => SqT K H p [kV kv.1, kv.2]) as kvs := by
  induction h with
  | nil => exact .nil
  | cons h _ ih => exact .cons (.inl (lk _ _ h)) ih
theorem putD_tab (acc : List Tab) (t : Tab) : putD (acc.map planP) (.inr t.1) (tabD t.2) = (putT acc t).map planP := by
  unfold putD putT
  have an : ((acc.map planP).any fun p => keyIs p.1 (.inr t.1)) = acc.any fun u => decide (u.1 = t.1) := by
    rw [List.any_map]
    rfl
  rw [an]
  split
  · rw [List.map_map, List.map_map]
    refine List.map_congr_left fun u _ => ?_
    show (if keyIs (planP u).1 (.inr t.1) = true then ((planP u).1, tabD t.2) else planP u) = planP (if u.1 = t.1 then (u.1, t.2) else u)
    by_cases e : u.1 = t.1
    · rw [if_pos e, if_pos (show keyIs (planP u).1 (.inr t.1) = true from decide_eq_true e)]
      rfl
    · rw [if_neg e, if_neg (show ¬ Dl.keyIs (planP u).1 (.inr t.1) = true from fun z => e (of_decide_eq_true z))]
  · rw [List.map_append]
    rfl
theorem merge_rel : ∀ {l : List Tab} {kvs : List (Key × V)} {acc : List Tab} {kas : List (Key × V)}, kvs.map (·.1) = l.map (fun t => (Sum.inr t.1 : Key)) → DqAll K F (kvs.map (·.2)) (l.map fun t => tabD t.2) →
    (acc.map planP).map (·.1) = kas.map (fun p => keyD p.1) → DqAll K F (kas.map (·.2)) ((acc.map planP).map (·.2)) → (kas.map (·.1)).Nodup →
    ((l.foldl putT acc).map planP).map (·.1) = (mergeK kas kvs).map (fun p => keyD p.1) ∧ DqAll K F ((mergeK kas kvs).map (·.2)) (((l.foldl putT acc).map planP).map (·.2)) ∧ ((mergeK kas kvs).map (·.1)).Nodup
  | [], [], acc, kas, _, _, h1, h2, nd => ⟨h1, h2, nd⟩
  | [], _ :: _, _, _, h, _, _, _, _ => by cases h
  | _ :: _, [], _, _, h, _, _, _, _ => by cases h
  | t :: l, kv :: kvs, acc, kas, h, r, h1, h2, nd => by
    rw [List.map_cons, List.map_cons] at h
    injection h with e1 e2
    rw [List.map_cons, List.map_cons] at r
    cases r with
    | cons r1 r2 =>
      have e1' : kv.1 = Sum.inr t.1 := e1
      obtain ⟨q1, q2, q3⟩ := put_rel (k := .inr t.1) h1 h2 nd r1
      rw [putD_tab] at q1 q2
      have := merge_rel (kas := putK kas (.inr t.1) kv.2) (acc := putT acc t) e2 r2 q1 q2 q3
      rw [← e1'] at this
      exact this
/-- dict(pairs) -/
theorem cd_dictL {l : List Tab} (r : R (.ownK ((mergeP l).map planP)) b) : CallD K B (rDictP K) [.dat (.list (l.map pairD))] b R := fun F H s vs hs Q q => by
  obtain ⟨v, rfl, h⟩ := df1 hs
  cases (show Dq K F v (.list (l.map pairD)) from h) with
  | @lst p vs _ h1 h2 =>
    obtain ⟨as, kvs, e, pr, ek, ev⟩ := pairs_tabs h2
    subst e
    refine ⟨p, as, kvs, rfl, lk_l s.lk (.inl h1), paired_lk2 s.lk pr, fun x hx => ?_⟩
    obtain ⟨q1, q2, q3⟩ := merge_rel (K := K) (F := F) (acc := []) (kas := []) ek ev rfl .nil .nil
    have ex : Ex H (L2.upd H x (.dK (mergeK [] kvs))) := Ex.new hx
    exact q (.ref x) (.ownK ((mergeP l).map planP)) b F _ r (s.grow ex) (Go.of_ex ex) ⟨x, _, rfl, s.h0 hx, s.non hx, upd_same, q1, q2, q3⟩ fun _ => ⟨x, rfl, hx⟩
/-- max(i, j) -/
theorem cd_max {i j : Int} (r : R (.dat (.int (if j > i then j else i))) b) : CallD K B (fun xs H Q => ∃ i j, xs = [.int i, .int j] ∧ Q (.int (if j > i then j else i)) H) [.dat (.int i), .dat (.int j)] b R := cd_pure (d := .int (if j > i then j else i)) (fun F H vs Q _ hs q => by
  obtain ⟨v, w, rfl, h1, h2⟩ := df2 hs
  cases (show Dq K F v (.int i) from h1)
  cases (show Dq K F w (.int j) from h2)
  exact ⟨i, j, rfl, q _ (.int _)⟩) r
theorem dqAll_rev {vs : List V} (h : DqAll K F vs ds) : DqAll K F vs.reverse ds.reverse := by
  induction ds generalizing vs with
  | nil =>
    cases h
    exact .nil
  | cons d r ih =>
    cases h with
    | cons h1 h2 =>
      rw [List.reverse_cons, List.reverse_cons]
      exact DqAll.snoc (ih h2) h1
/-- xs[::-1] -/
theorem me_revL (h : Me K B te δ b fun x b1 => ∃ ds, x.fz = .dat (.list ds) ∧ R (.own ds.reverse) b1) : Me K B (tRevL K te) δ b R := fun σ F H s Q k =>
  Me.run (Rest := fun x b1 => ∃ ds, x = .dat (.list ds) ∧ R (.own ds.reverse) b1) h s fun v x b1 F1 H1 ⟨ds, e, r⟩ s1 g1 d1 => by
    subst e
    cases (show Dq K F1 v (.list ds) from d1) with
    | @lst p vs _ h1 h2 =>
      refine ⟨p, vs, rfl, lk_l s1.lk (.inl h1), fun l hl => ?_⟩
      obtain ⟨s2, g2, d2, a2⟩ := s1.newL hl (dqAll_rev h2)
      exact k _ _ b1 F1 _ r s2 (g1.trans g2) d2 (a2.back g1 s1)
theorem me_revT (h : Me K B te δ b fun x b1 => ∃ ds, x.fz = .dat (.tuple ds) ∧ R (.dat (.tuple ds.reverse)) b1) : Me K B (tRevT K te) δ b R := fun σ F H s Q k =>
  Me.run (Rest := fun x b1 => ∃ ds, x = .dat (.tuple ds) ∧ R (.dat (.tuple ds.reverse)) b1) h s fun v x b1 F1 H1 ⟨ds, e, r⟩ s1 g1 d1 => by
    subst e
    cases (show Dq K F1 v (.tuple ds) from d1) with
    | @tup p vs _ h1 h2 =>
      refine ⟨p, vs, rfl, lk_t s1.lk (.inl h1), fun l hl => ?_⟩
      obtain ⟨s2, g2, d2⟩ := s1.newT hl (dqAll_rev h2)
      exact k _ _ b1 _ _ r s2 (g1.trans g2) d2 (Nw.no rfl)
/-- x, y = (e, e'): the first may be a new thing -/
theorem mz_tupO {i j : Nat} (h : Me K B ta δ b fun x b1 => Me K B tb δ b1 fun y b2 => E.nx ((δ.set i (some x)).set j (some y.fz)) b2) : Mz K B (tAsg (tTup (tCons ta (tCons tb tNil))) (gTup K 2 (gCons (gName i) (gCons (gName j) gNil)))) δ b E := fun σ F H s D dd =>
  h σ F H s _ fun v x b1 F1 H1 m s1 g1 d1 n1 => by
    refine Me.run (Rest := fun y b2 => E.nx ((δ.set i (some x)).set j (some y)) b2) m (s.back s1 g1) fun w y b2 F2 H2 r s2 g2 d2 => ?_
    have d1' := d1.kept s1 s2 g2
    refine ⟨by show 2 ≤ sizeLine; decide, fun q hq => ?_⟩
    have ex : Ex H2 (L2.upd H2 q (.tup [v, w])) := Ex.new hq
    have s3 : Sr K B b2 F2 (L2.upd H2 q (.tup [v, w])) := s2.grow ex
    have g3 : Go B F2 H2 F2 (L2.upd H2 q (.tup [v, w])) := Go.of_ex ex
    have s4 := s.back s3 ((g1.trans g2).trans g3)
    have d3 := d1'.kept s2 s3 g3
    refine ⟨q, [v, w], rfl, SqT.of upd_same, rfl, v, [w], rfl, w, [], rfl, rfl, ?_⟩
    refine dd.nx _ b2 _ F2 _ r ((s4.set i d3 fun o j' ej h1 h2 z => ?_).set j (Dr.of d2) (fun o => by rw [d2.notOwn] at o; cases o)) ((g1.trans g2).trans g3).ex
    obtain ⟨p, e1, e2⟩ := n1 o
    rw [e1] at z
    exact s.frsl e2 j' ej h1 h2 z
end
end K01
set_option Elab.async false
set_option linter.all false
set_option maxRecDepth 100000
set_option maxHeartbeats 4000000
namespace K01
open PySem PySem.Spec PyProof.Rows L2 Gd Evl Dl LamX LiI
/-- the class is called, its == and != -/
structure MkU (P : Program) (w : World) (K : PySem.W.Frag) (mg : Str → Option Value) (base : Heap) (C : Addr) (fM : Addr) (dM : FuncData) (fE : Addr) (dE : FuncData) : Prop where
  g : mg "Schema" = some (.ref C)
  mkd : Mk K C fM
  MF : FnOk P w K mg base (L2.CX P w) 5 fM dM ["self", "tables"] (spInit K C)
  bM : Binds K dM ["self", "tables"] []
  GE : FnOk P w K mg base CX0 1 fE dE ["self", "other"] (spD K 2 false [] (spEqS K C))
  bE : Binds K dE ["self", "other"] []
  eq : PySem.W.findIn K (.ref C) "__eq__" = some (some (.ref fE))
  eqfn : PySem.W.isFn K (.ref fE) = true
  ne : PySem.W.findIn K (.ref C) "__ne__" = some (some (.builtin "object.__ne__"))
  mro : PySem.W.mroIn K C (.type "object") = some true
abbrev NEq : List Str := ["pen", "schema", "plan", "table", "around", "others", "columns", "flags", "named", "more", "parts", "part", "names", "turned_here", "other", "same", "due", "column", "one", "k", "name"]
section
variable {P : Program} {w : World} {K : PySem.W.Frag} {mg : Str → Option Value} {base : Heap} {f C fM fE : Addr} {fd dM dE : FuncData}
def spEquals (K : PySem.W.Frag) (C : Addr) : DSpec := fun es b R _ => ∃ (b0 : Nat) (p : List Tab), es = [.pen, .mp (IsSch K C (sortP p)), .dat (.dict (p.map planP))] ∧ PlanOk p ∧ b = b0 + 1 ∧ R (.dat (.bool true)) b0
theorem scEquals : FnScope NEq ["pen", "schema", "plan"] (defScope sEquals) := ⟨rfl, rfl, rfl, by decide +kernel, rfl, by decide +kernel, by decide +kernel⟩
end
end K01
set_option Elab.async false
set_option linter.all false
set_option maxRecDepth 100000
set_option maxHeartbeats 4000000
/-! what _law_equals puts together -/
namespace K01
open PySem PySem.Spec PyProof.Rows L2 Gd Evl Dl LamX
theorem planP_inj : ∀ {p q : List Tab}, p.map planP = q.map planP → p = q
  | [], [], _ => rfl
  | [], _ :: _, h => by cases h
  | _ :: _, [], h => by cases h
  | t :: p, u :: q, h => by
    rw [List.map_cons, List.map_cons] at h
    injection h with h1 h2
    have e1 : t.1 = u.1 := PyData.str.inj (congrArg Prod.fst h1)
    have e2 : tabD t.2 = tabD u.2 := congrArg Prod.snd h1
    have e3 : t.2 = u.2 := (eqv_tab t.2 u.2).mp (by rw [e2]; exact (eqv_tab u.2 u.2).mpr rfl)
    rw [planP_inj h2, show t = u from Prod.ext e1 e3]
def dctD (q : List Tab) : PyData := .dict (q.map planP)
theorem pairs_items (p : List Tab) : ((p.map planP).map fun q => PyData.tuple [q.1, q.2]) = p.map pairD := by
  rw [List.map_map]
  rfl
/-- (name, plan[name]) of names of the plan -/
def nameF (p : List Tab) : PyData → PyData
  | .str x => .tuple [.str x, (lookK (p.map planP) (.inr x)).getD .none]
  | d => d
theorem nameF_at {p : List Tab} (nd : (p.map (·.1)).Nodup) {t : Tab} (h : t ∈ p) : nameF p (.str t.1) = pairD t := by
  show PyData.tuple [.str t.1, (lookK (p.map planP) (.inr t.1)).getD .none] = _
  rw [look_mem nd h]
  rfl
theorem nameF_map {p : List Tab} (nd : (p.map (·.1)).Nodup) : ∀ {l : List Tab}, (∀ t ∈ l, t ∈ p) → (l.map fun t => PyData.str t.1).map (nameF p) = l.map pairD
  | [], _ => rfl
  | t :: l, h => by
    rw [List.map_cons, List.map_cons, List.map_cons, nameF_at nd (h t List.mem_cons_self), nameF_map nd fun x hx => h x (List.mem_cons_of_mem _ hx)]
/-- the table renamed -/
def zzF (p : List Tab) (x0 : Str) : PyData → PyData
  | .str x => .tuple [.str (if x = x0 then "zzzz" else x), (lookK (p.map planP) (.inr x)).getD .none]
  | d => d
def zzT (x0 : Str) (u : Tab) : Tab := (if u.1 = x0 then "zzzz" else u.1, u.2)
theorem zzF_map {p : List Tab} (nd : (p.map (·.1)).Nodup) (x0 : Str) : ((p.map planP).map fun q => zzF p x0 q.1) = (p.map (zzT x0)).map pairD := by
  rw [List.map_map, List.map_map]
  refine List.map_congr_left fun u hu => ?_
  show PyData.tuple [.str (if u.1 = x0 then "zzzz" else u.1), (lookK (p.map planP) (.inr u.1)).getD .none] = pairD (zzT x0 u)
  rw [look_mem nd hu]
  rfl
theorem tabOk_name {t : Tab} (h : TabOk t) {x : Str} (hx : isNameS x = true) : TabOk (x, t.2) := ⟨hx, h.c1, h.c3, h.f2, h.cn, h.fn, h.nd⟩
theorem zz_name : isNameS "zzzz" = true := by decide +kernel
theorem zzT_ok {p : List Tab} (hp : PlanOk p) (x0 : Str) : PlanOk (mergeP (p.map (zzT x0))) := by
  refine mergeP_ok (fun t ht => ?_) (fun z => ?_) (Nat.le_trans (mergeP_len _) (by rw [List.length_map]; exact hp.n4))
  · obtain ⟨u, hu, rfl⟩ := List.mem_map.mp ht
    refine tabOk_name (hp.tb u hu) ?_
    show isNameS (if u.1 = x0 then "zzzz" else u.1) = true
    split
    · exact zz_name
    · exact (hp.tb u hu).nm
  · have := congrArg List.length z
    rw [List.length_map] at this
    have := hp.n1
    simp_all
theorem put_ok {p : List Tab} (hp : PlanOk p) {t : Tab} (tm : t ∈ p) {part : List (Str × Str) × List Str} (ok : TabOk (t.1, part)) : PlanOk (mergeP (p ++ [(t.1, part)])) := by
  refine mergeP_ok (fun u hu => ?_) (by simp) ?_
  · rcases List.mem_append.mp hu with h | h
    · exact hp.tb u h
    · have : u = (t.1, part) := by simpa using h
      rw [this]
      exact ok
  · rw [mergeP_put hp.nd, putT_in (t := (t.1, part)) (show t.1 ∈ p.map (·.1) from List.mem_map_of_mem (f := fun x : Tab => x.1) tm)]
    exact hp.n4
theorem add_ok {p : List Tab} (hp : PlanOk p) (h4 : p.length < 4) {t : Tab} (tm : t ∈ p) : PlanOk (mergeP (p ++ [(("zzzz" : Str), t.2)])) := by
  refine mergeP_ok (fun u hu => ?_) (by simp) ?_
  · rcases List.mem_append.mp hu with h | h
    · exact hp.tb u h
    · have : u = (("zzzz" : Str), t.2) := by simpa using h
      rw [this]
      exact tabOk_name (hp.tb t tm) zz_name
  · have := mergeP_len (p ++ [(("zzzz" : Str), t.2)])
    rw [List.length_append, List.length_singleton] at this
    omega
theorem sub_ok {p l : List Tab} (hp : PlanOk p) (h : ∀ t ∈ l, t ∈ p) (ne : l ≠ []) (n : l.length ≤ 4) : PlanOk (mergeP l) := mergeP_ok (fun t ht => hp.tb t (h t ht)) ne (Nat.le_trans (mergeP_len l) n)
/-! the parts -/
def names_ (t : Tab) : List Str := t.2.1.map (·.1) ++ t.2.2
theorem part_rev {t : Tab} (h : TabOk t) : TabOk (t.1, t.2.1.reverse, t.2.2) where
  nm := h.nm
  c1 := by show 1 ≤ t.2.1.reverse.length; rw [List.length_reverse]; exact h.c1
  c3 := by show t.2.1.reverse.length ≤ 3; rw [List.length_reverse]; exact h.c3
  f2 := h.f2
  cn := fun c hc => h.cn c (List.mem_reverse.mp hc)
  fn := h.fn
  nd := by
    have nd := List.nodup_append.mp h.nd
    refine List.nodup_append.mpr ⟨?_, nd.2.1, fun a ha b hb => nd.2.2 a ?_ b hb⟩
    · rw [List.map_reverse]
      exact (List.reverse_perm _).nodup_iff.mpr nd.1
    · rw [List.map_reverse, List.mem_reverse] at ha
      exact ha
theorem part_frev {t : Tab} (h : TabOk t) : TabOk (t.1, t.2.1, t.2.2.reverse) where
  nm := h.nm
  c1 := h.c1
  c3 := h.c3
  f2 := by show t.2.2.reverse.length ≤ 2; rw [List.length_reverse]; exact h.f2
  cn := h.cn
  fn := fun f hf => h.fn f (List.mem_reverse.mp hf)
  nd := by
    have nd := List.nodup_append.mp h.nd
    refine List.nodup_append.mpr ⟨nd.1, ?_, fun a ha b hb => nd.2.2 a ha b (List.mem_reverse.mp hb)⟩
    exact (List.reverse_perm _).nodup_iff.mpr nd.2.1
theorem part_c1 {t : Tab} (h : TabOk t) : TabOk (t.1, t.2.1.take 1, t.2.2) where
  nm := h.nm
  c1 := by show 1 ≤ (t.2.1.take 1).length; rw [List.length_take]; have := h.c1; omega
  c3 := by show (t.2.1.take 1).length ≤ 3; rw [List.length_take]; omega
  f2 := h.f2
  cn := fun c hc => h.cn c (List.mem_of_mem_take hc)
  fn := h.fn
  nd := by
    have nd := List.nodup_append.mp h.nd
    refine List.nodup_append.mpr ⟨?_, nd.2.1, fun a ha b hb => nd.2.2 a ?_ b hb⟩
    · exact List.Nodup.sublist (List.Sublist.map _ (List.take_sublist 1 _)) nd.1
    · exact ((List.take_sublist 1 t.2.1).map (·.1)).subset ha
theorem part_f1 {t : Tab} (h : TabOk t) : TabOk (t.1, t.2.1, t.2.2.drop 1) where
  nm := h.nm
  c1 := h.c1
  c3 := h.c3
  f2 := by show (t.2.2.drop 1).length ≤ 2; rw [List.length_drop]; have := h.f2; omega
  cn := h.cn
  fn := fun f hf => h.fn f (List.mem_of_mem_drop hf)
  nd := by
    have nd := List.nodup_append.mp h.nd
    exact List.nodup_append.mpr ⟨nd.1, List.Nodup.sublist (List.drop_sublist 1 _) nd.2.1, fun a ha b hb => nd.2.2 a ha b (List.mem_of_mem_drop hb)⟩
theorem part_more {t : Tab} (h : TabOk t) {x : Str} (hx : isNameS x = true) (nx : x ∉ names_ t) : TabOk (t.1, t.2.1, t.2.2.take 1 ++ [x]) where
  nm := h.nm
  c1 := h.c1
  c3 := h.c3
  f2 := by show (t.2.2.take 1 ++ [x]).length ≤ 2; rw [List.length_append, List.length_take, List.length_singleton]; omega
  cn := h.cn
  fn := fun f hf => by
    rcases List.mem_append.mp hf with hf | hf
    · exact h.fn f (List.mem_of_mem_take hf)
    · have : f = x := by simpa using hf
      rw [this]
      exact hx
  nd := by
    have nd := List.nodup_append.mp h.nd
    have n1 : x ∉ t.2.1.map (·.1) := fun z => nx (List.mem_append_left _ z)
    have n2 : x ∉ t.2.2 := fun z => nx (List.mem_append_right _ z)
    refine List.nodup_append.mpr ⟨nd.1, List.nodup_append.mpr ⟨List.Nodup.sublist (List.take_sublist 1 _) nd.2.1, by simp, fun a ha b hb e => ?_⟩, fun a ha b hb e => ?_⟩
    · have : b = x := by simpa using hb
      exact n2 (this ▸ e ▸ List.mem_of_mem_take ha)
    · rcases List.mem_append.mp hb with hb | hb
      · exact nd.2.2 a ha b (List.mem_of_mem_take hb) e
      · have : b = x := by simpa using hb
        exact n1 (this ▸ e ▸ ha)
theorem part_name {t : Tab} (h : TabOk t) {x : Str} (hx : isNameS x = true) (nx : x ∉ names_ t) {k : Str} (hk : isNameS k = true) : TabOk (t.1, (x, k) :: t.2.1.drop 1, t.2.2) where
  nm := h.nm
  c1 := by show 1 ≤ (t.2.1.drop 1).length + 1; omega
  c3 := by show (t.2.1.drop 1).length + 1 ≤ 3; rw [List.length_drop]; have := h.c3; omega
  f2 := h.f2
  cn := fun c hc => by
    rcases List.mem_cons.mp hc with rfl | hc
    · exact ⟨hx, hk⟩
    · exact h.cn c (List.mem_of_mem_drop hc)
  fn := h.fn
  nd := by
    have nd := List.nodup_append.mp h.nd
    have n1 : x ∉ t.2.1.map (·.1) := fun z => nx (List.mem_append_left _ z)
    have n2 : x ∉ t.2.2 := fun z => nx (List.mem_append_right _ z)
    show ((x :: (t.2.1.drop 1).map (·.1)) ++ t.2.2).Nodup
    refine List.nodup_append.mpr ⟨List.nodup_cons.mpr ⟨fun z => n1 (((List.drop_sublist 1 t.2.1).map (·.1)).subset z), List.Nodup.sublist (List.Sublist.map _ (List.drop_sublist 1 _)) nd.1⟩, nd.2.1, fun a ha b hb e => ?_⟩
    rcases List.mem_cons.mp ha with ha | ha
    · exact n2 (ha ▸ e ▸ hb)
    · exact nd.2.2 a (((List.drop_sublist 1 t.2.1).map (·.1)).subset ha) b hb e
theorem part_kind {t : Tab} (h : TabOk t) {c : Str × Str} {r : List (Str × Str)} (e : t.2.1 = c :: r) {k : Str} (hk : isNameS k = true) : TabOk (t.1, (c.1, k) :: t.2.1.drop 1, t.2.2) where
  nm := h.nm
  c1 := by show 1 ≤ (t.2.1.drop 1).length + 1; omega
  c3 := by show (t.2.1.drop 1).length + 1 ≤ 3; rw [List.length_drop]; have := h.c3; omega
  f2 := h.f2
  cn := fun d hd => by
    rcases List.mem_cons.mp hd with rfl | hd
    · exact ⟨(h.cn c (by rw [e]; exact List.mem_cons_self)).1, hk⟩
    · exact h.cn d (List.mem_of_mem_drop hd)
  fn := h.fn
  nd := by
    have nd := h.nd
    rw [e] at nd
    show ((c.1 :: (t.2.1.drop 1).map (·.1)) ++ t.2.2).Nodup
    rw [e]
    exact nd
def z7 : List Str := ["za", "zb", "zc", "zd", "ze", "zf", "zg"]
theorem z7_more {t : Tab} (h : TabOk t) : ∃ (x : Str) (r : List Str), z7.filter (fun x => !(names_ t).contains x) = x :: r ∧ isNameS x = true ∧ x ∉ names_ t := by
  have nl : (names_ t).length ≤ 5 := by
    unfold names_
    rw [List.length_append, List.length_map]
    have := h.c3
    have := h.f2
    omega
  cases e : z7.filter (fun x => !(names_ t).contains x) with
  | nil =>
    have all : ∀ x ∈ z7, x ∈ names_ t := fun x hx => by
      have := List.filter_eq_nil_iff.mp e x hx
      simpa using this
    have := pigeon (l := z7) (xs := names_ t) (by decide +kernel) all
    have l7 : z7.length = 7 := rfl
    omega
  | cons x r =>
    have hx : x ∈ z7.filter (fun x => !(names_ t).contains x) := by
      rw [e]
      exact List.mem_cons_self
    obtain ⟨h1, h2⟩ := List.mem_filter.mp hx
    have all : ∀ x ∈ z7, isNameS x = true := by decide +kernel
    exact ⟨x, r, rfl, all x h1, by simpa using h2⟩
/-- each table with the columns of the one before -/
def turnT (l : List Tab) (i : Nat) : Tab := ((l.getD i ("", [], [])).1, (l.getD (if i = 0 then l.length - 1 else i - 1) ("", [], [])).2)
theorem cut1 (ds : List PyData) : Dl.cutD ds none (some 1) = ds.take 1 := cutD_hi 1
theorem cut1d (ds : List PyData) : Dl.cutD ds (some 1) none = ds.drop 1 := cutD_lo 1
/-- a statement whose end is told -/
theorem mz_mid {K : PySem.W.Frag} {B : Base} {s1 : TS} {δ : Dl.Env} {b : Nat} {E : Ed} (IV : Dl.Env → Nat → Prop) (h : Mz K B s1 δ b { E with nx := IV }) (k : ∀ δ' b', IV δ' b' → E.nx δ' b') : Mz K B s1 δ b E :=
  h.mono (fun δ' b' q => k δ' b' q) (fun _ _ q => q) (fun _ _ q => q) (fun _ _ q => q)
end K01
set_option Elab.async false
set_option linter.all false
set_option maxRecDepth 100000
set_option maxHeartbeats 4000000
namespace K01
open PySem PySem.Spec PyProof.Rows L2 Gd Evl Dl LamX LiI
section
variable {P : Program} {w : World} {K : PySem.W.Frag} {mg : Str → Option Value} {base : Heap} {f C fM fE : Addr} {fd dM dE : FuncData}
theorem ok_equals (T : Bn mg) (hS : SysD K) (M : MkU P w K mg base C fM dM fE dE) (hD : HasF P w K mg base CX0 2 "_law_draw" ["pen", "under"] spDraw) (F : FnP K "_law_equals" sEquals f fd) : FnG P w K mg base 8 f fd ["pen", "schema", "plan"] (spD K 3 true [] (spEquals K C)) := by
  obtain ⟨fD, dD, gD, kD, GD, bD⟩ := hD
  have MF := M.MF
  have bM := M.bM
  have GE := M.GE
  have bE := M.bE
  have sc := scEquals
  refine Gd.FunD.okG F sc (fun vs H Q E h => spD_len h) (fun cdv A outer s H vs Q hgd hr h hcode => ⟨_, (pss_cons (ps_set (i := 4) sc.nd rfl (Or.inl rfl) (pe_callTy (call_dictP rfl) (by rfl) T.dict (by decide +kernel) (pa_cons (pe_lc (own := [("table", 3)]) (g := gName 3) (tt := tYes) rfl sc.nd (pi_list (pe_revL (pe_callB (call_sortedD rfl) (by rfl) T.sorted (by decide +kernel) (pa_cons (pv 2) pa_nil)))) (blkOk_by (N := NEq) (sc := defScope sEquals) (by decide +kernel)) (fun _ _ _ _ _ => pg_name (i := 3) sc.nd rfl (Or.inl rfl)) (fun _ _ _ _ _ => pts_nil) (fun _ _ _ _ _ => (pe_tup (pa_cons (pv 3) (pa_cons (pe_dget (hu_of hr) (pv 2) (pv 3) (fun _ _ => rfl)) pa_nil))))) pa_nil)))
    (pss_cons (ps_asg (pe_tup (pa_cons (pe_lst (pa_cons (pv 4) pa_nil)) (pa_cons (pe_ix ix_list (pe_callB (call_sortedD rfl) (by rfl) T.sorted (by decide +kernel) (pa_cons (pv 2) pa_nil)) (pe_call GD (hr.mono (by decide)) (by rfl) gD kD bD .nil pass0 (pa_cons (pv 0) (pa_cons (pe_callB call_lenD (by rfl) T.len PySem.boot_len (pa_cons (pv 2) pa_nil)) pa_nil))) (fun _ _ => rfl)) pa_nil))) (pg_tup rfl (pgs_cons (pg_name (i := 5) sc.nd rfl (Or.inl rfl)) (pgs_cons (pg_name (i := 3) sc.nd rfl (Or.inr rfl)) pgs_nil))))
    (pss_cons (ps_asg (pe_dget (hu_of hr) (pv 2) (pv 3) (fun _ _ => rfl)) (pg_tup rfl (pgs_cons (pg_name (i := 6) sc.nd rfl (Or.inl rfl)) (pgs_cons (pg_name (i := 7) sc.nd rfl (Or.inl rfl)) pgs_nil))))
    (pss_cons (ps_set (i := 8) sc.nd rfl (Or.inr rfl) (pe_op op_cat (pe_lc (own := [("column", 17)]) (g := gName 17) (tt := tYes) rfl sc.nd (pi_tup (pv 6)) (blkOk_by (N := NEq) (sc := defScope sEquals) (by decide +kernel)) (fun _ _ _ _ _ => pg_name (i := 17) sc.nd rfl (Or.inl rfl)) (fun _ _ _ _ _ => pts_nil) (fun _ _ _ _ _ => (pe_ix (r := rIxT K) (by exact ix_tup) (pv 17) pe_int (fun _ _ => rfl)))) (pe_callTy call_list_of (by rfl) T.list (by decide +kernel) (pa_cons (pv 7) pa_nil))))
    (pss_cons (ps_set (i := 9) sc.nd rfl (Or.inl rfl) (pe_ix ix_list (pe_lc (own := [("one", 18)]) (g := gName 18) rfl sc.nd (pi_list (pe_lst (pa_cons pe_str (pa_cons pe_str (pa_cons pe_str (pa_cons pe_str (pa_cons pe_str (pa_cons pe_str (pa_cons pe_str pa_nil))))))))) (blkOk_by (N := NEq) (sc := defScope sEquals) (by decide +kernel)) (fun _ _ _ _ _ => pg_name (i := 18) sc.nd rfl (Or.inl rfl)) (fun _ _ _ _ _ => pts_one (pt_cmpR (r := rIn K true) (by exact op_notIn_seq) (pv 18) (pv 8) (by rfl))) (fun _ _ _ _ _ => (pv 18))) pe_int (fun _ _ => rfl)))
    (pss_cons (ps_set (i := 10) sc.nd rfl (Or.inl rfl) (pe_lst (pa_cons (pe_tup (pa_cons (pe_revT (pv 6)) (pa_cons (pv 7) pa_nil))) (pa_cons (pe_tup (pa_cons (pv 6) (pa_cons (pe_revT (pv 7)) pa_nil))) (pa_cons (pe_tup (pa_cons (pe_slice sl_tupA (pv 6) po_none (po_some pe_int)) (pa_cons (pv 7) pa_nil))) (pa_cons (pe_tup (pa_cons (pv 6) (pa_cons (pe_slice sl_tupA (pv 7) (po_some pe_int) po_none) pa_nil))) pa_nil))))))
    (pss_cons (ps_set (i := 10) sc.nd rfl (Or.inl rfl) (pe_op op_cat (pv 10) (pe_lst (pa_cons (pe_tup (pa_cons (pv 6) (pa_cons (pe_op op_catA (pe_slice sl_tupA (pv 7) po_none (po_some pe_int)) (pe_tup (pa_cons (pv 9) pa_nil))) pa_nil))) (pa_cons (pe_tup (pa_cons (pe_op op_catA (pe_tup (pa_cons (pe_tup (pa_cons (pv 9) (pa_cons (pe_ix ix_tup (pe_ix ix_tup (pv 6) pe_int (fun _ _ => rfl)) pe_int (fun _ _ => rfl)) pa_nil))) pa_nil)) (pe_slice sl_tupA (pv 6) (po_some pe_int) po_none)) (pa_cons (pv 7) pa_nil))) pa_nil)))))
    (pss_cons (ps_expr (pe_bm PySem.F.plainAttrs_list PySem.F.slot_list_append rfl mt_append (pv 10) (pa_cons (pe_tup (pa_cons (pe_op op_catA (pe_tup (pa_cons (pe_tup (pa_cons (pe_ix ix_tup (pe_ix ix_tup (pv 6) pe_int (fun _ _ => rfl)) pe_int (fun _ _ => rfl)) (pa_cons (pv 9) pa_nil))) pa_nil)) (pe_slice sl_tupA (pv 6) (po_some pe_int) po_none)) (pa_cons (pv 7) pa_nil))) pa_nil)))
    (pss_cons (ps_for PassesOwn.never rfl (pi_list (pv 10)) (pg_name (i := 11) sc.nd rfl (Or.inl rfl))
    (pss_one (ps_expr (pe_bm PySem.F.plainAttrs_list PySem.F.slot_list_append rfl mt_append (pv 5) (pa_cons (pe_callTy (call_dictP rfl) (by rfl) T.dict (by decide +kernel) (pa_cons (pe_op op_cat (pe_listItems rfl (pv 2) (by rfl) T.list (by decide +kernel)) (pe_lst (pa_cons (pe_tup (pa_cons (pv 3) (pa_cons (pv 11) pa_nil))) pa_nil))) pa_nil)) pa_nil)))))
    (pss_cons (ps_expr (pe_bm PySem.F.plainAttrs_list PySem.F.slot_list_append rfl mt_append (pv 5) (pa_cons (pe_callTy (call_dictP rfl) (by rfl) T.dict (by decide +kernel) (pa_cons (pe_lock (pe_lc (own := [("one", 18)]) (g := gName 18) (tt := tYes) rfl sc.nd (pi_keys (pv 2)) (blkOk_by (N := NEq) (sc := defScope sEquals) (by decide +kernel)) (fun _ _ _ _ _ => pg_name (i := 18) sc.nd rfl (Or.inl rfl)) (fun _ _ _ _ _ => pts_nil) (fun _ _ _ _ _ => (pe_tup (pa_cons (pe_ifExp (pt_cmpR op_ne (pv 18) (pv 3) (nomark _)) (pv 18) pe_str) (pa_cons (pe_dget (hu_of hr) (pv 2) (pv 18) (fun _ _ => rfl)) pa_nil)))))) pa_nil)) pa_nil)))
    (pss_cons (ps_set (i := 12) sc.nd rfl (Or.inr rfl) (pe_callB (call_sortedD rfl) (by rfl) T.sorted (by decide +kernel) (pa_cons (pv 2) pa_nil)))
    (pss_cons (ps_set (i := 13) sc.nd rfl (Or.inl rfl) (pe_callTy (call_dictP rfl) (by rfl) T.dict (by decide +kernel) (pa_cons (pe_lc (own := [("k", 19)]) (g := gName 19) (tt := tYes) rfl sc.nd (pi_range1 rfl T.range (pa_cons (pe_callB call_len_seq (by rfl) T.len PySem.boot_len (pa_cons (pv 12) pa_nil)) pa_nil)) (blkOk_by (N := NEq) (sc := defScope sEquals) (by decide +kernel)) (fun _ _ _ _ _ => pg_name (i := 19) sc.nd rfl (Or.inl rfl)) (fun _ _ _ _ _ => pts_nil) (fun _ _ _ _ _ => (pe_tup (pa_cons (pe_ix (r := rIxL K) (by exact ix_list) (pv 12) (pv 19) (fun _ _ => rfl)) (pa_cons (pe_dget (hu_of hr) (pv 2) (pe_ix (r := rIxL K) (by exact ix_list) (pv 12) (pe_op (r := rI0 fun i j => .int (i - j)) (by exact op_sub) (pv 19) pe_int) (fun _ _ => rfl)) (fun _ _ => rfl)) pa_nil))))) pa_nil)))
    (pss_cons (ps_expr (pe_bm PySem.F.plainAttrs_list PySem.F.slot_list_append rfl mt_append (pv 5) (pa_cons (pv 13) pa_nil)))
    (pss_cons (ps_if (pt_cmpR op_lt (pe_callB call_lenD (by rfl) T.len PySem.boot_len (pa_cons (pv 2) pa_nil)) pe_int (nomark _)) (pss_one (ps_expr (pe_bm PySem.F.plainAttrs_list PySem.F.slot_list_append rfl mt_append (pv 5) (pa_cons (pe_callTy (call_dictP rfl) (by rfl) T.dict (by decide +kernel) (pa_cons (pe_op op_cat (pe_listItems rfl (pv 2) (by rfl) T.list (by decide +kernel)) (pe_lst (pa_cons (pe_tup (pa_cons pe_str (pa_cons (pe_dget (hu_of hr) (pv 2) (pv 3) (fun _ _ => rfl)) pa_nil))) pa_nil))) pa_nil)) pa_nil)))) pss_nil)
    (pss_cons (ps_expr (pe_bm PySem.F.plainAttrs_list PySem.F.slot_list_append rfl mt_append (pv 5) (pa_cons (pe_callTy (call_dictP rfl) (by rfl) T.dict (by decide +kernel) (pa_cons (pe_lc (own := [("name", 20)]) (g := gName 20) (tt := tYes) rfl sc.nd (pi_list (pe_slice sl_list (pv 12) po_none (po_some (pe_callB (call_max2 rfl) (by rfl) T.max (by decide +kernel) (pa_cons pe_int (pa_cons (pe_op op_sub (pe_callB call_len_seq (by rfl) T.len PySem.boot_len (pa_cons (pv 12) pa_nil)) pe_int) pa_nil)))))) (blkOk_by (N := NEq) (sc := defScope sEquals) (by decide +kernel)) (fun _ _ _ _ _ => pg_name (i := 20) sc.nd rfl (Or.inl rfl)) (fun _ _ _ _ _ => pts_nil) (fun _ _ _ _ _ => (pe_tup (pa_cons (pv 20) (pa_cons (pe_dget (hu_of hr) (pv 2) (pv 20) (fun _ _ => rfl)) pa_nil))))) pa_nil)) pa_nil)))
    (pss_cons (ps_for PassesOwn.never rfl (pi_list (pv 5)) (pg_name (i := 14) sc.nd rfl (Or.inl rfl))
    (pss_cons (ps_par (i := 15) (j := 16) rfl sc.nd rfl rfl (by decide) rfl rfl (pa_cons (pe_make M.mkd MF (hr.mono (by decide)) (by rfl) M.g bM .nil (passes_call LamX.takes0 (fun _ _ _ _ h => h)) (pa_cons (pv 14) pa_nil)) (pa_cons (pe_callB (call_repr hgd hr.units hS) (by rfl) T.repr (by decide +kernel) (pa_cons (pe_cmpR (op_eqKD (hu70_of hr) hS) (pv 14) (pv 2) (nomark _)) pa_nil)) pa_nil)) (by rfl))
    (pss_one (ps_if (PW.pt (pw_or (pt_cmpR (op_neD hr.units) (pe_lst (pa_cons (pe_callB (call_repr hgd hr.units hS) (by rfl) T.repr (by decide +kernel) (pa_cons (pe_cmpR (op_ownEq (E := C8.E0) GE M.eq M.eqfn bE (hr.mono (by decide))) (pv 1) (pv 15) (nomark _)) pa_nil)) (pa_cons (pe_callB (call_repr hgd hr.units hS) (by rfl) T.repr (by decide +kernel) (pa_cons (pe_cmpR (op_ownEq (E := C8.E0) GE M.eq M.eqfn bE (hr.mono (by decide))) (pv 15) (pv 1) (nomark _)) pa_nil)) pa_nil))) (pe_op op_rep (pe_lst (pa_cons (pv 16) pa_nil)) pe_int) (nomark _)) (pw_or1 (pt_cmpR op_eq (pe_callB (call_repr hgd hr.units hS) (by rfl) T.repr (by decide +kernel) (pa_cons (pe_cmpR (op_ownNe (E := C8.E0) GE M.eq M.eqfn bE M.ne M.mro (hr.mono (by decide))) (pv 1) (pv 15) (nomark _)) pa_nil)) (pv 16) (nomark _))))) (pss_one (ps_ret pe_bl)) pss_nil))))
    (pss_one (ps_ret (pe_cmpR op_eq (pe_callB (call_repr hgd hr.units hS) (by rfl) T.repr (by decide +kernel) (pa_cons (pe_lc (own := [("one", 18)]) (g := gName 18) (tt := tYes) rfl sc.nd (pi_list (pe_lst (pa_cons pe_non (pa_cons (pv 2) (pa_cons (pe_callB (call_sortedD rfl) (by rfl) T.sorted (by decide +kernel) (pa_cons (pv 2) pa_nil)) (pa_cons pe_int (pa_cons pe_str pa_nil))))))) (blkOk_by (N := NEq) (sc := defScope sEquals) (by decide +kernel)) (fun _ _ _ _ _ => pg_name (i := 18) sc.nd rfl (Or.inl rfl)) (fun _ _ _ _ _ => pts_nil) (fun _ _ _ _ _ => (pe_cmpR (r := rOwnEq K C (spD K 2 false [] (spEqS K C)) C8.E0) (by exact op_ownEq (E := C8.E0) GE M.eq M.eqfn bE (hr.mono (by decide))) (pv 1) (pv 18) (nomark _)))) pa_nil)) (pe_callB (call_repr hgd hr.units hS) (by rfl) T.repr (by decide +kernel) (pa_cons (pe_op op_rep (pe_lst (pa_cons pe_bl pa_nil)) pe_int) pa_nil)) (nomark _)))))))))))))))))))), ?_⟩)
  refine spD_enter h (by decide) fun B b es R he hT hu hX hBX ⟨b0, p, e, hp, hb, hR⟩ => ?_
  subst e
  have hul := hu (by rfl)
  have n1 := hp.n1
  have n4 := hp.n4
  subst hb
  have pl : (p.map planP).length = p.length := List.length_map ..
  have spl : (sortP p).length = p.length := (sortP_perm p).length_eq
  have snames : sortS (p.map (·.1)) = (sortP p).map (·.1) := (sortP_names p).symm
  have sstr : (sortS (p.map (·.1))).map PyData.str = (sortP p).map fun t => .str t.1 := by
    rw [snames, List.map_map]
    rfl
  have sub : ∀ t ∈ sortP p, t ∈ p := fun t ht => mem_sortP.mp ht
  have spok := hp.perm (sortP_perm p)
  have kstr : (p.map planP).map (·.1) = (p.map (·.1)).map PyData.str := by
    rw [List.map_map, List.map_map]
    rfl
  have srt : ∀ (D : Dl.Env) (c : Nat) (R : Dv → Nat → Prop), D[2]? = some (some (.dat (.dict (p.map planP)))) → R (.own ((sortP p).map fun t => .str t.1)) c → Me K B (tCB rSortedD (tCons (tVar 2) tNil)) D c R := fun D c R hD r =>
    me_cb (ma_cons (me_var (e := .dat (.dict (p.map planP))) (ma_nil (cd_sortK (ks := p.map (·.1)) kstr (by rw [List.length_map]; omega) (by rw [sstr]; exact r))) hD))
  -- around
  obtain ⟨q0, hq0⟩ : ∃ q0, q0 = mergeP (sortP p).reverse := ⟨_, rfl⟩
  have ok0 : PlanOk q0 := hq0 ▸ sub_ok hp (fun t ht => sub t (List.mem_reverse.mp ht)) (fun z => by
    have := congrArg List.length z
    rw [List.length_reverse, spl, List.length_nil] at this
    omega) (by rw [List.length_reverse]; omega)
  refine mz_seq (mz_setF (me_cb (ma_cons (me_map (j := 3) (mi_list (me_revL (srt _ _ _ rfl ?_)))))))
  refine ⟨_, rfl, _, rfl, by rw [List.length_reverse, List.length_map]; omega, nameF p, fun x hx => ?_, ?_⟩
  · rw [← List.map_reverse] at hx
    obtain ⟨t, ht, rfl⟩ := List.mem_map.mp hx
    have tm := sub t (List.mem_reverse.mp ht)
    refine me_tup (ma_cons (me_var (e := .dat (.str t.1)) (ma_cons (me_dget (me_var (e := .dat (.dict (p.map planP))) (me_var (e := .dat (.str t.1)) ⟨_, .inr t.1, _, rfl, rfl, look_mem hp.nd tm, ma_nil ⟨[.str t.1, tabD t.2], rfl, le2, ?_, rfl⟩⟩))))))
    rw [nameF_at hp.nd tm]
    rfl
  rw [← List.map_reverse, nameF_map hp.nd fun t ht => sub t (List.mem_reverse.mp ht)]
  refine ma_nil (cd_dictL ?_)
  rw [← hq0]
  refine mz_env (δ' := [some .pen, some (.mp (IsSch K C (sortP p))), some (.dat (.dict (p.map planP))), none, some (.dat (dctD q0)), none, none, none, none, none, none, none, none, none, none, none, none, none, none, none, none]) rfl ?_
  -- others, table
  refine mz_seq (mz_tupO (me_lst (ma_cons (me_var (e := .dat (dctD q0)) (ma_nil ⟨[dctD q0], rfl, le1, ?_⟩)))))
  refine me_op (srt _ _ _ rfl ?_)
  refine me_callV (ma_cons (me_var (e := .pen) (ma_cons (me_cb (ma_cons (me_var (e := .dat (.dict (p.map planP))) (ma_nil ?_)))))))
  refine cd_lenK hul (ma_nil ?_)
  refine cd_draw (b := b0) (by rw [pl]; omega) (by rw [pl]; omega) fun g g0 g1 => ?_
  rw [pl] at g1
  obtain ⟨j, rfl⟩ : ∃ j : Nat, g = (j : Int) := ⟨g.toNat, by omega⟩
  obtain ⟨t, ht⟩ : ∃ t, (sortP p)[j]? = some t := ⟨_, List.getElem?_eq_getElem (by omega)⟩
  have tm : t ∈ p := sub t (List.mem_of_getElem? ht)
  have tok := hp.tb t tm
  have lk := look_mem hp.nd tm
  have c1 := tok.c1
  have c3 := tok.c3
  have f2 := tok.f2
  refine opd_ixL (d := .str t.1) (atI_at rfl (by rw [List.getElem?_map, ht] <;> rfl)) ?_
  -- columns, flags
  refine mz_seq (mz_asg (me_dget (me_var (e := .dat (.dict (p.map planP))) (me_var (e := .dat (.str t.1)) ⟨_, .inr t.1, _, rfl, rfl, lk, mg_names (n := 2) (is := [6, 7]) rfl rfl ?_⟩))))
  obtain ⟨CD, hCD⟩ : ∃ CD, CD = t.2.1.map colD := ⟨_, rfl⟩
  obtain ⟨FD, hFD⟩ : ∃ FD, FD = t.2.2.map PyData.str := ⟨_, rfl⟩
  have CDl : CD.length = t.2.1.length := by rw [hCD, List.length_map]
  have FDl : FD.length = t.2.2.length := by rw [hFD, List.length_map]
  refine mz_env (δ' := [some .pen, some (.mp (IsSch K C (sortP p))), some (.dat (.dict (p.map planP))), some (.dat (.str t.1)), some (.dat (dctD q0)), some (.own [dctD q0]), some (.dat (.tuple CD)), some (.dat (.tuple FD)), none, none, none, none, none, none, none, none, none, none, none, none, none]) (by rw [hCD, hFD] <;> rfl) ?_
  -- named
  refine mz_seq (mz_setF (me_op (me_map (j := 17) (mi_tup (me_var (e := .dat (.tuple CD)) ⟨_, rfl, by omega, (fun d => match d with | .tuple (x :: _) => x | _ => d), fun x hx => ?_, ?_⟩)))))
  · rw [hCD] at hx
    obtain ⟨cl, hcl, rfl⟩ := List.mem_map.mp hx
    refine me_op (me_var (e := .dat (colD cl)) (me_int ?_))
    exact opd_ixT (ds := [.str cl.1, .str cl.2]) (d := .str cl.1) atI0 ⟨rfl, rfl⟩
  refine me_cb (ma_cons (me_var (e := .dat (.tuple FD)) (ma_nil (cd_listT ?_))))
  refine opd_cat (by rw [List.length_map]; omega) ?_
  have eN : (CD.map fun d => match d with | .tuple (x :: _) => x | _ => d) ++ FD = (names_ t).map .str := by
    unfold names_
    rw [hCD, hFD, List.map_map, List.map_append, List.map_map]
    rfl
  rw [eN]
  -- more
  obtain ⟨mo, mr, hmo, mok, mno⟩ := z7_more tok
  refine mz_seq (mz_setF (me_op (me_filter (j := 18) (mi_list (me_lst ?_)))))
  refine ma_cons (me_str (ma_cons (me_str (ma_cons (me_str (ma_cons (me_str (ma_cons (me_str (ma_cons (me_str (ma_cons (me_str ?_)))))))))))))
  refine ma_nil ⟨z7.map .str, rfl, by show 7 ≤ 100000; decide, z7.map .str, rfl, by show 7 ≤ 100000; decide, (fun d => match d with | .str x => !(names_ t).contains x | _ => false), fun d => d, fun x hx => ?_, fun x hx _ => me_var (e := .dat x) ⟨rfl, rfl⟩, ?_⟩
  · obtain ⟨z, hz, rfl⟩ := List.mem_map.mp hx
    exact mt_test (me_op (me_var (e := .dat (.str z)) (me_var (e := .dat (.list ((names_ t).map .str))) (opd_inS ⟨_, rfl, rfl, rfl⟩))))
  have eM : (((z7.map PyData.str).filter fun d => match d with | .str x => !(names_ t).contains x | _ => false).map fun d => d) = (mo :: mr).map .str := by
    rw [List.map_id', List.filter_map, ← hmo]
    rfl
  rw [eM]
  refine me_int (opd_ixL (ds := .str mo :: mr.map .str) (d := .str mo) atI0 ?_)
  obtain ⟨NM, hNM⟩ : ∃ NM, NM = PyData.list ((names_ t).map .str) := ⟨_, rfl⟩
  refine mz_env (δ' := [some .pen, some (.mp (IsSch K C (sortP p))), some (.dat (.dict (p.map planP))), some (.dat (.str t.1)), some (.dat (dctD q0)), some (.own [dctD q0]), some (.dat (.tuple CD)), some (.dat (.tuple FD)), some (.dat NM), some (.dat (.str mo)), none, none, none, none, none, none, none, none, none, none, none]) (by rw [hNM] <;> rfl) ?_
  -- parts
  obtain ⟨cl, cr, hcl⟩ : ∃ cl cr, t.2.1 = cl :: cr := by
    match e : t.2.1, c1 with
    | cl :: cr, _ => exact ⟨cl, cr, rfl⟩
  have at0 : atI CD 0 = some (colD cl) := by rw [hCD, hcl]; exact atI0
  refine mz_seq (mz_setF (me_lst ?_))
  refine ma_cons (me_tup (ma_cons (me_revT (me_var (e := .dat (.tuple CD)) ⟨CD, rfl, ma_cons (me_var (e := .dat (.tuple FD)) (ma_nil ⟨[.tuple CD.reverse, .tuple FD], rfl, le2, ?_⟩))⟩))))
  refine ma_cons (me_tup (ma_cons (me_var (e := .dat (.tuple CD)) (ma_cons (me_revT (me_var (e := .dat (.tuple FD)) ⟨FD, rfl, ma_nil ⟨[.tuple CD, .tuple FD.reverse], rfl, le2, ?_⟩⟩))))))
  refine ma_cons (me_tup (ma_cons (me_slT (me_var (e := .dat (.tuple CD)) ⟨CD, rfl, mo_none (mo_some (me_int ⟨_, rfl, ?_⟩))⟩))))
  refine ma_cons (me_var (e := .dat (.tuple FD)) (ma_nil ⟨[.tuple (Dl.cutD CD none (some 1)), .tuple FD], rfl, le2, ?_⟩))
  refine ma_cons (me_tup (ma_cons (me_var (e := .dat (.tuple CD)) (ma_cons (me_slT (me_var (e := .dat (.tuple FD)) ⟨FD, rfl, mo_some (me_int ⟨_, rfl, mo_none ?_⟩)⟩))))))
  refine ma_nil ⟨[.tuple CD, .tuple (Dl.cutD FD (some 1) none)], rfl, le2, ?_⟩
  obtain ⟨P1, hP1⟩ : ∃ P1 : List PyData, P1 = [.tuple [.tuple CD.reverse, .tuple FD], .tuple [.tuple CD, .tuple FD.reverse], .tuple [.tuple (Dl.cutD CD none (some 1)), .tuple FD], .tuple [.tuple CD, .tuple (Dl.cutD FD (some 1) none)]] := ⟨_, rfl⟩
  refine ma_nil ⟨P1, by rw [hP1] <;> rfl, by show 4 ≤ 100000; decide, ?_⟩
  refine mz_seq (mz_set (me_op (me_var (e := .dat (.list P1)) (me_lst ?_))))
  obtain ⟨F1, hF1⟩ : ∃ F1, F1 = Dl.cutD FD none (some 1) := ⟨_, rfl⟩
  obtain ⟨C1, hC1⟩ : ∃ C1, C1 = Dl.cutD CD (some 1) none := ⟨_, rfl⟩
  have F1e : F1 = (t.2.2.take 1).map .str := by rw [hF1, cut1, hFD, List.map_take]
  have C1e : C1 = (t.2.1.drop 1).map colD := by rw [hC1, cut1d, hCD, List.map_drop]
  have F1l : F1.length ≤ 2 := by rw [F1e, List.length_map, List.length_take]; omega
  have C1l : C1.length ≤ 3 := by rw [C1e, List.length_map, List.length_drop]; omega
  refine ma_cons (me_tup (ma_cons (me_var (e := .dat (.tuple CD)) (ma_cons (me_op (me_slT (me_var (e := .dat (.tuple FD)) ⟨FD, rfl, mo_none (mo_some (me_int ⟨_, rfl, ?_⟩))⟩)))))))
  rw [← hF1]
  refine me_tup (ma_cons (me_var (e := .dat (.str mo)) (ma_nil ⟨[.str mo], rfl, le1, ?_⟩)))
  refine opd_catT (as := F1) (bs := [.str mo]) (by show F1.length + 1 ≤ 100000; omega) (ma_nil ⟨[.tuple CD, .tuple (F1 ++ [.str mo])], rfl, le2, ?_⟩)
  refine ma_cons (me_tup (ma_cons (me_op (me_tup (ma_cons (me_tup (ma_cons (me_var (e := .dat (.str mo)) (ma_cons (me_op (me_op (me_var (e := .dat (.tuple CD)) (me_int ?_)))))))))))))
  refine opd_ixT at0 (me_int ?_)
  refine opd_ixT (ds := [.str cl.1, .str cl.2]) (d := .str cl.2) (atI_at (j := 1) rfl rfl) (ma_nil ⟨[.str mo, .str cl.2], rfl, le2, ma_nil ⟨[.tuple [.str mo, .str cl.2]], rfl, le1, ?_⟩⟩)
  refine me_slT (me_var (e := .dat (.tuple CD)) ⟨CD, rfl, mo_some (me_int ⟨_, rfl, mo_none ?_⟩)⟩)
  rw [← hC1]
  refine opd_catT (as := [.tuple [.str mo, .str cl.2]]) (bs := C1) (by show 1 + C1.length ≤ 100000; omega) (ma_cons (me_var (e := .dat (.tuple FD)) (ma_nil ⟨[.tuple ([.tuple [.str mo, .str cl.2]] ++ C1), .tuple FD], rfl, le2, ?_⟩)))
  obtain ⟨P2, hP2⟩ : ∃ P2 : List PyData, P2 = [.tuple [.tuple CD, .tuple (F1 ++ [.str mo])], .tuple [.tuple ([.tuple [.str mo, .str cl.2]] ++ C1), .tuple FD]] := ⟨_, rfl⟩
  refine ma_nil ⟨P2, by rw [hP2] <;> rfl, le2, ?_⟩
  refine opd_cat (as := P1) (bs := P2) (by rw [hP1, hP2]; show 4 + 2 ≤ 100000; decide) ?_
  refine mz_seq (mz_app (i := 10) (ds := P1 ++ P2) (me_tup (ma_cons (me_op (me_tup (ma_cons (me_tup (ma_cons (me_op (me_op (me_var (e := .dat (.tuple CD)) (me_int ?_))))))))))))
  refine opd_ixT at0 (me_int ?_)
  refine opd_ixT (ds := [.str cl.1, .str cl.2]) (d := .str cl.1) atI0 (ma_cons (me_var (e := .dat (.str mo)) (ma_nil ⟨[.str cl.1, .str mo], rfl, le2, ma_nil ⟨[.tuple [.str cl.1, .str mo]], rfl, le1, ?_⟩⟩)))
  refine me_slT (me_var (e := .dat (.tuple CD)) ⟨CD, rfl, mo_some (me_int ⟨_, rfl, mo_none ?_⟩)⟩)
  rw [← hC1]
  refine opd_catT (as := [.tuple [.str cl.1, .str mo]]) (bs := C1) (by show 1 + C1.length ≤ 100000; omega) (ma_cons (me_var (e := .dat (.tuple FD)) (ma_nil ⟨[.tuple ([.tuple [.str cl.1, .str mo]] ++ C1), .tuple FD], rfl, le2, ?_⟩)))
  refine ⟨_, rfl, by rw [hP1, hP2]; show 4 + 2 < 100000; decide, ?_⟩
  obtain ⟨PTs, hPT, pok, pll⟩ : ∃ PTs : List (List (Str × Str) × List Str), P1 ++ P2 ++ [.tuple [.tuple ([.tuple [.str cl.1, .str mo]] ++ C1), .tuple FD]] = PTs.map tabD ∧ (∀ x ∈ PTs, TabOk (t.1, x)) ∧ PTs.length = 7 := by
    have ck := (tok.cn cl (by rw [hcl]; exact List.mem_cons_self)).2
    refine ⟨[(t.2.1.reverse, t.2.2), (t.2.1, t.2.2.reverse), (t.2.1.take 1, t.2.2), (t.2.1, t.2.2.drop 1), (t.2.1, t.2.2.take 1 ++ [mo]), ((mo, cl.2) :: t.2.1.drop 1, t.2.2), ((cl.1, mo) :: t.2.1.drop 1, t.2.2)], ?_, fun x hx => ?_, rfl⟩
    · rw [hP1, hP2, F1e, C1e, cut1, cut1d, hCD, hFD]
      simp only [List.map_cons, List.map_nil, tabD, List.map_append, List.map_reverse, List.map_take, List.map_drop]
      rfl
    · simp only [List.mem_cons, List.not_mem_nil, or_false] at hx
      rcases hx with rfl | rfl | rfl | rfl | rfl | rfl | rfl
      · exact part_rev tok
      · exact part_frev tok
      · exact part_c1 tok
      · exact part_f1 tok
      · exact part_more tok mok mno
      · exact part_name tok mok mno ck
      · exact part_kind tok hcl mok
  rw [hPT]
  refine mz_fz (i := 10) rfl ?_
  obtain ⟨PP, hPP⟩ : ∃ PP, PP = PyData.list (PTs.map tabD) := ⟨_, rfl⟩
  refine mz_env (δ' := [some .pen, some (.mp (IsSch K C (sortP p))), some (.dat (.dict (p.map planP))), some (.dat (.str t.1)), some (.dat (dctD q0)), some (.own ([q0].map dctD)), some (.dat (.tuple CD)), some (.dat (.tuple FD)), some (.dat NM), some (.dat (.str mo)), some (.dat PP), none, none, none, none, none, none, none, none, none, none]) (by rw [hPP] <;> rfl) ?_
  -- others
  refine mz_seq (mz_for (mi_list (me_var (e := .dat PP) ⟨PTs.map tabD, by rw [hPP] <;> rfl, fun i δ c => c = b0 ∧ ∃ (Qs : List (List Tab)) (x11 : Option Dv), δ = [some .pen, some (.mp (IsSch K C (sortP p))), some (.dat (.dict (p.map planP))), some (.dat (.str t.1)), some (.dat (dctD q0)), some (.own (Qs.map dctD)), some (.dat (.tuple CD)), some (.dat (.tuple FD)), some (.dat NM), some (.dat (.str mo)), some (.dat PP), x11, none, none, none, none, none, none, none, none, none] ∧ Qs.length = 1 + i ∧ ∀ q ∈ Qs, PlanOk q, ⟨rfl, [q0], none, rfl, rfl, fun q hq => ?_⟩, ?_, ?_⟩)))
  · have : q = q0 := by simpa using hq
    rw [this]
    exact ok0
  · rintro i d δ c hi ⟨rfl, Qs, x11, rfl, hQ, qok⟩
    obtain ⟨pt, hpt, rfl⟩ := get_map hi
    have il : i < 7 := by
      have := (List.getElem?_eq_some_iff.mp hpt).1
      omega
    refine mg_name (mz_app (i := 5) (ds := Qs.map dctD) (me_cb (ma_cons (me_op (me_listItems hul (me_var (e := .dat (.dict (p.map planP))) ⟨p.map planP, rfl, ?_⟩))))))
    rw [pairs_items]
    refine me_lst (ma_cons (me_tup (ma_cons (me_var (e := .dat (.str t.1)) (ma_cons (me_var (e := .dat (tabD pt)) (ma_nil ⟨[.str t.1, tabD pt], rfl, le2, ma_nil ⟨[pairD (t.1, pt)], rfl, le1, ?_⟩⟩)))))))
    refine opd_cat (as := p.map pairD) (bs := [pairD (t.1, pt)]) (by rw [List.length_map]; show p.length + 1 ≤ 100000; omega) (ma_nil ?_)
    rw [show Dv.fz (.own (p.map pairD ++ [pairD (t.1, pt)])) = .dat (.list ((p ++ [(t.1, pt)]).map pairD)) from by rw [List.map_append] <;> rfl]
    refine cd_dictL ⟨_, rfl, by rw [List.length_map]; omega, ?_⟩
    refine ⟨rfl, Qs ++ [mergeP (p ++ [(t.1, pt)])], _, congrArg (fun z => [_, _, _, _, _, some (Dv.own z), _, _, _, _, _, _, _, _, _, _, _, _, _, _, _]) (by rw [List.map_append] <;> rfl), by rw [List.length_append, List.length_singleton]; omega, fun q hq => ?_⟩
    rcases List.mem_append.mp hq with hq | hq
    · exact qok q hq
    · have : q = mergeP (p ++ [(t.1, pt)]) := by simpa using hq
      rw [this]
      exact put_ok hp tm (pok pt (List.mem_of_getElem? hpt))
  rintro δ c ⟨rfl, Qs, x11, rfl, hQ, qok⟩
  rw [List.length_map, pll] at hQ
  have grow : ∀ {Qs : List (List Tab)} {q : List Tab}, (∀ q ∈ Qs, PlanOk q) → PlanOk q → ∀ x ∈ Qs ++ [q], PlanOk x := fun {Qs q} h1 h2 x hx => by
    rcases List.mem_append.mp hx with hx | hx
    · exact h1 x hx
    · have : x = q := by simpa using hx
      rw [this]
      exact h2
  have addQ : ∀ (Qs : List (List Tab)) (q : List Tab), Qs.map dctD ++ [PyData.dict (q.map planP)] = (Qs ++ [q]).map dctD := fun Qs q => by
    rw [List.map_append]
    rfl
  -- zzzz
  refine mz_seq (mz_app (i := 5) (ds := Qs.map dctD) (me_cb (ma_cons (me_lcK (j := 18) (dk_var rfl hul.1 hul.2) (by rw [pl]; omega) (zzF p t.1) (fun a o q hq => ?_) ?_))))
  · obtain ⟨u, hu, rfl⟩ := List.mem_map.mp hq
    refine me_tup (ma_cons (me_just (.dat (.str (if u.1 = t.1 then "zzzz" else u.1))) (me_if (mt_test (me_op (me_var (e := .dat (.str u.1)) (me_var (e := .dat (.str t.1)) (opd_neS ⟨_, rfl, fun k => ?_, fun k => ?_⟩)))))) ?_))
    · have : ¬ u.1 = t.1 := by simpa using k
      rw [if_neg this]
      exact me_var (e := .dat (.str u.1)) ⟨rfl, rfl⟩
    · have : u.1 = t.1 := by simpa using k
      rw [if_pos this]
      exact me_str ⟨rfl, rfl⟩
    · refine ma_cons (me_dget (me_var (e := .dat (.dict (p.map planP))) (me_var (e := .dat (.str u.1)) ⟨_, .inr u.1, _, rfl, rfl, look_mem hp.nd hu, ma_nil ⟨[.str (if u.1 = t.1 then "zzzz" else u.1), tabD u.2], rfl, le2, ?_, rfl⟩⟩)))
      show Dv.dat (PyData.tuple [.str (if u.1 = t.1 then "zzzz" else u.1), tabD u.2]) = .dat (.tuple [.str (if u.1 = t.1 then "zzzz" else u.1), (lookK (p.map planP) (.inr u.1)).getD .none])
      rw [look_mem hp.nd hu]
      rfl
  rw [zzF_map hp.nd]
  refine ma_nil (cd_dictL ⟨_, rfl, by rw [List.length_map]; omega, ?_⟩)
  rw [addQ]
  -- names, turned_here
  refine mz_seq (mz_setF (srt _ _ _ rfl ?_))
  obtain ⟨SN, hSN⟩ : ∃ SN, SN = (sortP p).map fun t => PyData.str t.1 := ⟨_, rfl⟩
  have SNl : SN.length = p.length := by rw [hSN, List.length_map, spl]
  refine mz_env (δ' := [some .pen, some (.mp (IsSch K C (sortP p))), some (.dat (.dict (p.map planP))), some (.dat (.str t.1)), some (.dat (dctD q0)), some (.own ((Qs ++ [mergeP (p.map (zzT t.1))]).map dctD)), some (.dat (.tuple CD)), some (.dat (.tuple FD)), some (.dat NM), some (.dat (.str mo)), some (.dat PP), x11, some (.dat (.list SN)), none, none, none, none, none, none, none, none]) (by rw [hSN] <;> rfl) ?_
  obtain ⟨TL, hTL⟩ : ∃ TL, TL = (List.range p.length).map (turnT (sortP p)) := ⟨_, rfl⟩
  have tgt : ∀ i, i < p.length → ∃ u, (sortP p)[i]? = some u ∧ u ∈ p := fun i hi => by
    have : i < (sortP p).length := by omega
    exact ⟨_, List.getElem?_eq_getElem this, sub _ (List.getElem_mem this)⟩
  have tla : TL ≠ [] := fun z => by
    have := congrArg List.length z
    rw [hTL, List.length_map, List.length_range, List.length_nil] at this
    omega
  have tlok : ∀ x ∈ TL, TabOk x := fun x hx => by
    rw [hTL] at hx
    obtain ⟨i, hi, rfl⟩ := List.mem_map.mp hx
    have hi' := List.mem_range.mp hi
    obtain ⟨u, hu, um⟩ := tgt i hi'
    obtain ⟨w, hw, wm⟩ := tgt (if i = 0 then (sortP p).length - 1 else i - 1) (by rw [spl]; split <;> omega)
    unfold turnT
    rw [List.getD_eq_getElem?_getD, hu, List.getD_eq_getElem?_getD, hw]
    exact tabOk_name (hp.tb w wm) (hp.tb u um).nm
  refine mz_seq (mz_setF (me_cb (ma_cons (me_map (j := 19) (mi_rng (ma_cons (me_cb (ma_cons (me_var (e := .dat (.list SN)) (ma_nil (cd_lenL ?_)))))))))))
  refine ma_nil ⟨_, rfl, by omega, by omega, ?_⟩
  rw [SNl, Int.toNat_natCast]
  refine ⟨by rw [intsD_len]; omega, (fun d => match d with | .int i => pairD (turnT (sortP p) i.toNat) | _ => d), fun x hx => ?_, ?_⟩
  · unfold intsD at hx
    obtain ⟨i, hi, rfl⟩ := List.mem_map.mp hx
    have hi' := List.mem_range.mp hi
    obtain ⟨u, hu, um⟩ := tgt i hi'
    obtain ⟨w, hw, wm⟩ := tgt (if i = 0 then (sortP p).length - 1 else i - 1) (by rw [spl]; split <;> omega)
    have e0 : (0 : Int) + (i : Int) = (i : Int) := Int.zero_add _
    have et : turnT (sortP p) i = (u.1, w.2) := by
      unfold turnT
      rw [List.getD_eq_getElem?_getD, hu, List.getD_eq_getElem?_getD, hw]
      rfl
    have at1 : atI SN (i : Int) = some (.str u.1) := atI_at rfl (by rw [hSN, List.getElem?_map, hu] <;> rfl)
    have at2 : atI SN ((i : Int) - 1) = some (.str w.1) := by
      have hsn : SN[(if i = 0 then (sortP p).length - 1 else i - 1)]? = some (.str w.1) := by rw [hSN, List.getElem?_map, hw] <;> rfl
      unfold atI ixN
      by_cases z : i = 0
      · rw [if_pos z] at hsn
        rw [if_neg (by omega), if_pos (by rw [SNl]; omega)]
        have : ((i : Int) - 1 + (SN.length : Int)).toNat = (sortP p).length - 1 := by rw [SNl, spl]; omega
        rw [this]
        exact hsn
      · rw [if_neg z] at hsn
        rw [if_pos (by omega), if_pos (by rw [SNl]; omega)]
        have : ((i : Int) - 1).toNat = i - 1 := by omega
        rw [this]
        exact hsn
    rw [e0]
    refine me_tup (ma_cons (me_op (me_var (e := .dat (.list SN)) (me_var (e := .dat (.int (i : Int))) ?_))))
    refine opd_ixL at1 (ma_cons (me_dget (me_var (e := .dat (.dict (p.map planP))) (me_op (me_var (e := .dat (.list SN)) (me_op (me_var (e := .dat (.int (i : Int))) (me_int ?_))))))))
    refine opd_I0 (d := .int ((i : Int) - 1)) (.int _) ?_
    refine opd_ixL at2 ⟨_, .inr w.1, _, rfl, rfl, look_mem hp.nd wm, ma_nil ⟨[.str u.1, tabD w.2], rfl, le2, ?_, rfl⟩⟩
    show Dv.dat (.tuple [.str u.1, tabD w.2]) = .dat (pairD (turnT (sortP p) (i : Int).toNat))
    rw [Int.toNat_natCast, et]
    rfl
  have eT : ((intsD 0 p.length).map fun d => match d with | .int i => pairD (turnT (sortP p) i.toNat) | _ => d) = TL.map pairD := by
    unfold intsD
    rw [hTL, List.map_map, List.map_map]
    refine List.map_congr_left fun i _ => ?_
    show pairD (turnT (sortP p) ((0 : Int) + (i : Int)).toNat) = pairD (turnT (sortP p) i)
    rw [Int.zero_add, Int.toNat_natCast]
  rw [eT]
  refine ma_nil (cd_dictL ?_)
  have okT : PlanOk (mergeP TL) := mergeP_ok tlok tla (Nat.le_trans (mergeP_len _) (by rw [hTL, List.length_map, List.length_range]; omega))
  obtain ⟨Q2, hQ2⟩ : ∃ Q2, Q2 = Qs ++ [mergeP (p.map (zzT t.1))] := ⟨_, rfl⟩
  have q2ok : ∀ q ∈ Q2, PlanOk q := hQ2 ▸ grow qok (zzT_ok hp t.1)
  have Q2l : Q2.length = 9 := by rw [hQ2, List.length_append, hQ] <;> rfl
  rw [← hQ2]
  refine mz_env (δ' := [some .pen, some (.mp (IsSch K C (sortP p))), some (.dat (.dict (p.map planP))), some (.dat (.str t.1)), some (.dat (dctD q0)), some (.own (Q2.map dctD)), some (.dat (.tuple CD)), some (.dat (.tuple FD)), some (.dat NM), some (.dat (.str mo)), some (.dat PP), x11, some (.dat (.list SN)), some (.dat (dctD (mergeP TL))), none, none, none, none, none, none, none]) rfl ?_
  refine mz_seq (mz_app (i := 5) (ds := Q2.map dctD) (me_var (e := .dat (dctD (mergeP TL))) ⟨_, rfl, by rw [List.length_map]; omega, ?_⟩))
  rw [show Q2.map dctD ++ [dctD (mergeP TL)] = (Q2 ++ [mergeP TL]).map dctD from addQ _ _]
  -- one more table
  refine mz_seq (mz_mid (fun δ c' => c' = c ∧ ∃ Q3 : List (List Tab), δ = [some .pen, some (.mp (IsSch K C (sortP p))), some (.dat (.dict (p.map planP))), some (.dat (.str t.1)), some (.dat (dctD q0)), some (.own (Q3.map dctD)), some (.dat (.tuple CD)), some (.dat (.tuple FD)), some (.dat NM), some (.dat (.str mo)), some (.dat PP), x11, some (.dat (.list SN)), some (.dat (dctD (mergeP TL))), none, none, none, none, none, none, none] ∧ Q3.length ≤ 11 ∧ ∀ q ∈ Q3, PlanOk q) (mz_if (mt_test (me_op (me_cb (ma_cons (me_var (e := .dat (.dict (p.map planP))) (ma_nil ?_))))))) ?_)
  · refine cd_lenK hul (me_int ?_)
    refine opd_I0 (d := .bool (decide (((p.map planP).length : Int) < 4))) (.bl _) ⟨_, rfl, fun k => ?_, fun k => mz_next ⟨rfl, _, rfl, by rw [List.length_append, List.length_singleton]; omega, grow q2ok okT⟩⟩
    have k' : ((p.map planP).length : Int) < 4 := of_decide_eq_true k
    rw [pl] at k'
    refine mz_app (i := 5) (ds := (Q2 ++ [mergeP TL]).map dctD) (me_cb (ma_cons (me_op (me_listItems hul (me_var (e := .dat (.dict (p.map planP))) ⟨p.map planP, rfl, ?_⟩)))))
    rw [pairs_items]
    refine me_lst (ma_cons (me_tup (ma_cons (me_str (ma_cons (me_dget (me_var (e := .dat (.dict (p.map planP))) (me_var (e := .dat (.str t.1)) ⟨_, .inr t.1, _, rfl, rfl, lk, ma_nil ⟨[.str "zzzz", tabD t.2], rfl, le2, ma_nil ⟨[pairD ("zzzz", t.2)], rfl, le1, ?_⟩⟩⟩))))))))
    refine opd_cat (as := p.map pairD) (bs := [pairD ("zzzz", t.2)]) (by rw [List.length_map]; show p.length + 1 ≤ 100000; omega) (ma_nil ?_)
    rw [show Dv.fz (.own (p.map pairD ++ [pairD ("zzzz", t.2)])) = .dat (.list ((p ++ [(("zzzz" : Str), t.2)]).map pairD)) from by rw [List.map_append] <;> rfl]
    refine cd_dictL ⟨_, rfl, by rw [List.length_map, List.length_append, List.length_singleton]; omega, ?_⟩
    rw [addQ]
    exact ⟨rfl, _, rfl, by rw [List.length_append, List.length_append, List.length_singleton, List.length_singleton]; omega, grow (grow q2ok okT) (add_ok hp (by omega) tm)⟩
  rintro δ c' ⟨rfl, Q3, rfl, Q3l, q3ok⟩
  -- fewer tables
  refine mz_seq (mz_app (i := 5) (ds := Q3.map dctD) (me_cb (ma_cons (me_map (j := 20) (mi_list (me_slL (me_var (e := .dat (.list SN)) ⟨_, rfl, mo_none (mo_some (me_cb (ma_cons (me_int (ma_cons (me_op (me_cb (ma_cons (me_var (e := .dat (.list SN)) (ma_nil ?_))))))))))⟩)))))))
  refine cd_lenL (me_int ?_)
  refine opd_I0 (d := .int ((SN.length : Int) - 1)) (.int _) (ma_nil (cd_max ⟨_, rfl, ?_⟩))
  obtain ⟨m, hm, m1⟩ : ∃ m : Nat, (if (SN.length : Int) - 1 > 1 then (SN.length : Int) - 1 else 1) = (m : Int) ∧ 1 ≤ m := by
    by_cases z : (SN.length : Int) - 1 > 1
    · rw [if_pos z]
      exact ⟨SN.length - 1, by omega, by omega⟩
    · rw [if_neg z]
      exact ⟨1, rfl, by decide⟩
  rw [hm]
  refine ⟨_, rfl, ?_⟩
  have eS : Dl.cutD SN none (some (m : Int)) = ((sortP p).take m).map fun t => PyData.str t.1 := by rw [cutD_hi, hSN, List.map_take]
  rw [eS]
  have tsub : ∀ u ∈ (sortP p).take m, u ∈ p := fun u hu => sub u (List.mem_of_mem_take hu)
  refine ⟨by rw [List.length_map, List.length_take]; omega, nameF p, fun x hx => ?_, ?_⟩
  · obtain ⟨u, hu, rfl⟩ := List.mem_map.mp hx
    have um := tsub u hu
    refine me_tup (ma_cons (me_var (e := .dat (.str u.1)) (ma_cons (me_dget (me_var (e := .dat (.dict (p.map planP))) (me_var (e := .dat (.str u.1)) ⟨_, .inr u.1, _, rfl, rfl, look_mem hp.nd um, ma_nil ⟨[.str u.1, tabD u.2], rfl, le2, ?_, rfl⟩⟩))))))
    rw [nameF_at hp.nd um]
    rfl
  rw [nameF_map hp.nd tsub]
  refine ma_nil (cd_dictL ⟨_, rfl, by rw [List.length_map]; omega, ?_⟩)
  rw [addQ]
  have okL : PlanOk (mergeP ((sortP p).take m)) := sub_ok hp tsub (fun z => by
    have := congrArg List.length z
    rw [List.length_take, spl, List.length_nil] at this
    omega) (by rw [List.length_take]; omega)
  obtain ⟨Q4, hQ4⟩ : ∃ Q4, Q4 = Q3 ++ [mergeP ((sortP p).take m)] := ⟨_, rfl⟩
  have q4ok : ∀ q ∈ Q4, PlanOk q := hQ4 ▸ grow q3ok okL
  rw [← hQ4]
  refine mz_fz (i := 5) rfl ?_
  obtain ⟨OO, hOO⟩ : ∃ OO, OO = PyData.list (Q4.map dctD) := ⟨_, rfl⟩
  refine mz_env (δ' := [some .pen, some (.mp (IsSch K C (sortP p))), some (.dat (.dict (p.map planP))), some (.dat (.str t.1)), some (.dat (dctD q0)), some (.dat OO), some (.dat (.tuple CD)), some (.dat (.tuple FD)), some (.dat NM), some (.dat (.str mo)), some (.dat PP), x11, some (.dat (.list SN)), some (.dat (dctD (mergeP TL))), none, none, none, none, none, none, none]) (by rw [hOO] <;> rfl) ?_
  have pk : ∀ p : List Tab, p.map planP = (p.map planK).map kd := fun p => by
    rw [List.map_map] <;> rfl
  have shp : ∀ {q : List Tab}, PlanOk q → ∀ x ∈ q.map planK, SeqAt.shaped x.2 = true := fun {q} h x hx => by
    obtain ⟨u, hu, rfl⟩ := List.mem_map.mp hx
    exact shaped_tab (h.tb u hu)
  have fitB : ∀ k : Bool, Fit (.bool k) := fun k => Sz.fit (n := 0) (w := 0) (by
    cases k
    · exact ⟨rfl, by decide +kernel, by decide +kernel, by decide +kernel, by decide +kernel⟩
    · exact ⟨rfl, by decide +kernel, by decide +kernel, by decide +kernel, by decide +kernel⟩) (by decide) (by decide)
  have shB : ∀ k : Bool, (PyData.str (PyData.bool k).shown).canLay0 = true := fun k => by cases k <;> decide +kernel
  have neB : ∀ k : Bool, (PyData.bool (!k)).shown ≠ (PyData.bool k).shown := fun k => by cases k <;> decide +kernel
  refine mz_seq (mz_for (mi_list (me_var (e := .dat OO) ⟨Q4.map dctD, by rw [hOO] <;> rfl, fun i δ c2 => c2 = c' ∧ ∃ x14 x15 x16, δ = [some .pen, some (.mp (IsSch K C (sortP p))), some (.dat (.dict (p.map planP))), some (.dat (.str t.1)), some (.dat (dctD q0)), some (.dat OO), some (.dat (.tuple CD)), some (.dat (.tuple FD)), some (.dat NM), some (.dat (.str mo)), some (.dat PP), x11, some (.dat (.list SN)), some (.dat (dctD (mergeP TL))), x14, x15, x16, none, none, none, none], ⟨rfl, none, none, none, rfl⟩, ?_, ?_⟩)))
  · rintro i d δ c2 hi ⟨rfl, x14, x15, x16, rfl⟩
    obtain ⟨q, hq, rfl⟩ := get_map hi
    have qok' := q4ok q (List.mem_of_getElem? hq)
    obtain ⟨k, hk⟩ : ∃ k, k = eqP q p := ⟨_, rfl⟩
    have hk2 : k = eqP p q := hk.trans (eqP_symm qok'.nd hp.nd)
    refine mg_name ?_
    have gq := GP.plan qok'
    refine mz_seq (mz_parOO (by decide) (by show 15 < 21; decide) (me_make hX hBX hul (ma_cons (me_var (e := .dat (dctD q)) (ma_nil ⟨dctD q, rfl, (gq.sz (n := 4) (by decide)).sm, fun ds e => ?_, fun p' e _ => ?_, fun z => ?_⟩)))))
    · cases e
      exact gq.nd
    · have : q = p' := planP_inj (PyData.dict.inj e)
      subst this
      refine me_cb (ma_cons (me_op (me_var (e := .dat (dctD q)) (me_var (e := .dat (.dict (p.map planP))) ?_))))
      show OpD K B (rEqKD K) (.dat (.dict (q.map planP))) (.dat (.dict (p.map planP))) _
      rw [pk, pk]
      refine opd_eqKD (shp qok') (shp hp) (ma_nil ?_)
      rw [show eqK (q.map planK) (p.map planK) = k from hk.symm]
      refine cd_repr (fitB k) ?_
      refine mz_no ?_ (mz_next ⟨rfl, _, _, _, rfl⟩)
      refine mt_or (mt_test (me_op (me_lst ?_)))
      refine ma_cons (me_cb (ma_cons (me_op (me_var (e := .mp (IsSch K C (sortP p))) (me_var (e := .mp (IsSch K C (sortP q))) (opd_ownEq (.inl ⟨_, rfl⟩) fun b => eqS_sch hp qok' ⟨⟨_, rfl, ?_⟩, rfl⟩))))))
      rw [show eqK (p.map planK) (q.map planK) = k from hk2.symm]
      refine ma_nil (cd_repr (fitB k) (ma_cons (me_cb (ma_cons (me_op (me_var (e := .mp (IsSch K C (sortP q))) (me_var (e := .mp (IsSch K C (sortP p))) (opd_ownEq (.inl ⟨_, rfl⟩) fun b => eqS_sch qok' hp ⟨⟨_, rfl, ?_⟩, rfl⟩))))))))
      rw [show eqK (q.map planK) (p.map planK) = k from hk.symm]
      refine ma_nil (cd_repr (fitB k) (ma_nil ⟨[.str (PyData.bool k).shown, .str (PyData.bool k).shown], rfl, le2, ?_⟩))
      refine me_op (me_lst (ma_cons (me_var (e := .dat (.str (PyData.bool k).shown)) (ma_nil ⟨[.str (PyData.bool k).shown], rfl, le1, me_int ?_⟩))))
      refine opd_rep (n := 2) (by decide) (by decide) (by show 1 ≤ 100; decide) ?_
      refine opd_neStrs (xs := [(PyData.bool k).shown, (PyData.bool k).shown]) (fun x hx => by
        simp only [List.mem_cons, List.not_mem_nil, or_false] at hx
        rcases hx with rfl | rfl <;> exact shB k) ⟨false, rfl, fun _ => ?_, fun z => nomatch z⟩
      refine mt_test (me_op (me_cb (ma_cons (me_op (me_var (e := .mp (IsSch K C (sortP p))) (me_var (e := .mp (IsSch K C (sortP q))) (opd_ownNe (R := fun e => e = .dat (.bool k)) (.inl ⟨_, rfl⟩) (fun b => eqS_sch hp qok' ⟨⟨_, rfl, ?_⟩, rfl⟩) fun k2 e2 => ?_)))))))
      · rw [show eqK (p.map planK) (q.map planK) = k from hk2.symm]
      · have : k2 = k := by
          cases e2
          rfl
        subst this
        refine ma_nil (cd_repr (fitB _) (me_var (e := .dat (.str (PyData.bool k2).shown)) (opd_eqS ⟨_, rfl, decide_eq_false (neB k2), rfl⟩)))
    · rw [show isPlanD (dctD q) = true from plan_is qok'] at z
      cases z
  rintro δ c2 ⟨rfl, x14, x15, x16, rfl⟩
  -- other objects
  obtain ⟨L5, hL5⟩ : ∃ L5 : List PyData, L5 = [.none, .dict (p.map planP), .list SN, .int 0, .str "schema"] := ⟨_, rfl⟩
  have fit5 : Fit (.list (List.replicate 5 (.bool false))) := Sz.fit (n := 1) (w := 100) (by
    refine ⟨?_, ?_, ?_, ?_, ?_⟩ <;> decide +kernel) (by decide) (by decide)
  refine mz_ret (me_op (me_cb (ma_cons (me_map (j := 18) (mi_list (me_lst ?_))))))
  refine ma_cons (me_non (ma_cons (me_var (e := .dat (.dict (p.map planP))) (ma_cons (srt _ _ _ rfl ?_)))))
  rw [← hSN]
  refine ma_cons (me_int (ma_cons (me_str (ma_nil ⟨L5, by rw [hL5] <;> rfl, by show 5 ≤ 100000; decide, ?_⟩))))
  refine ⟨_, rfl, by rw [hL5]; show 5 ≤ 100000; decide, fun _ => .bool false, fun x hx => ?_, ?_⟩
  · exact me_op (me_var (e := .mp (IsSch K C (sortP p))) (me_var (e := .dat x) (opd_ownEq (.inr ⟨_, rfl⟩) fun b => .inr ⟨_, _, rfl, ⟨_, rfl, rfl, rfl⟩, rfl⟩)))
  have e5 : L5.map (fun _ => PyData.bool false) = List.replicate 5 (.bool false) := by rw [hL5] <;> rfl
  rw [e5]
  refine ma_nil (cd_repr fit5 (me_cb (ma_cons (me_op (me_lst (ma_cons (me_bl (ma_nil ⟨[.bool false], rfl, le1, me_int ?_⟩))))))))
  refine opd_rep (n := 5) (by decide) (by decide) (by show 1 ≤ 100; decide) (ma_nil (cd_repr fit5 ?_))
  exact opd_eqSame hR
end
end K01
set_option Elab.async false
set_option linter.all false
set_option maxRecDepth 100000
set_option maxHeartbeats 4000000
/-! an owned dict that is looked at, handed to the class, cleared; text * int -/
namespace Gd
open PySem PySem.Spec PyProof.Rows L2
def repS (z : Str) (k : Nat) : Str := ⟨(List.replicate k z.cps).foldl (· ++ ·) #[]⟩
def rMulS : R2 := fun x y H Q => ∃ (z : Str) (k : Int), x = .str z ∧ y = .int k ∧ 2 ≤ k ∧ k ≤ 1000 ∧ 1 ≤ z.length ∧ z.length ≤ 1000 ∧ Q (.str (repS z k.toNat)) H
theorem fold_size (a : Array Nat) : ∀ (k : Nat) (acc : Array Nat), ((List.replicate k a).foldl (· ++ ·) acc).size = acc.size + k * a.size
  | 0, acc => by simp
  | k + 1, acc => by
    rw [List.replicate_succ, List.foldl_cons, fold_size a k, Array.size_append, Nat.succ_mul]
    omega
section
variable {X : Cx}
theorem op_mulS : OpR X (binaryOp .Mult) rMulS := by
  intro pins s σ H x y v u Q I rx ry ⟨z, k, e1, e2, h1, h2, h3, h4, q⟩
  subst e1 e2
  obtain ⟨t, rfl⟩ := rx
  obtain ⟨t', rfl⟩ := ry
  have n1 : ¬ k < 1 := by omega
  have n2 : (k == 1 || z.length == 0) = false := by
    rw [Bool.or_eq_false_iff, beq_eq_false_iff_ne, beq_eq_false_iff_ne]
    omega
  have sz : z.length * k.toNat ≤ 1000 * 1000 := Nat.mul_le_mul h4 (by omega)
  refine PySem.P.mul_str ?_ (fun _ _ => ?_) (fun _ _ => ?_) ?_
  · rw [Bool.or_eq_false_iff, decide_eq_false_iff_not, decide_eq_false_iff_not]
    omega
  · have : (1000 : Int) ≤ (2 ^ 63 - 1) / k := by
      rw [Int.le_ediv_iff_mul_le (by omega)]
      omega
    omega
  · unfold Builtin.Str.tooLong
    have : ¬ z.length * k.toNat > sizeLine := by
      show ¬ z.length * k.toNat > 2 ^ 24
      omega
    simp [this]
  · rw [if_neg n1, if_neg (by rw [n2]; exact Bool.false_ne_true)]
    refine ⟨?_, .str (repS z k.toNat), H, I.tok _, ⟨_, rfl⟩, q⟩
    show ((List.replicate k.toNat z.cps).foldl (· ++ ·) #[]).size ≤ 2 ^ 24
    rw [fold_size]
    have : z.cps.size = z.length := rfl
    rw [this, Nat.mul_comm]
    show 0 + z.length * k.toNat ≤ 2 ^ 24
    omega
end
end Gd
namespace Dl
open PySem PySem.Spec PyProof.Rows L2 Evl Gd LamX
section
variable {K : PySem.W.Frag} {B : Base} {F F' H H' : Hp} {v : V} {e : Dv} {δ : Env} {b : Nat} {σ : L2.St} {d : PyData} {ds as bs : List PyData} {ps : List (PyData × PyData)} {ta tb te tk tv : TE} {R : Dv → Nat → Prop} {E : Ed} {D : Ends} {i : Nat} {p : Addr}
theorem opd_mulS {z : Str} {k : Int} {R : Dv → Prop} (h1 : 2 ≤ k) (h2 : k ≤ 1000) (h3 : 1 ≤ z.length) (h4 : z.length ≤ 1000) (r : R (.dat (.str (repS z k.toNat)))) : OpD K B rMulS (.dat (.str z)) (.dat (.int k)) R := opd_pure (d := .str (repS z k.toNat)) (fun F H vx vy Q _ hx hy q => by
  cases (show Dq K F vx (.str z) from hx)
  cases (show Dq K F vy (.int k) from hy)
  exact ⟨z, k, rfl, rfl, h1, h2, h3, h4, q _ (.str _)⟩) r
/-- a slot's own dict, frozen for a while -/
theorem thaw_in {i : Nat} {kvs : List (Key × V)} (s : Sd K B δ b σ F H) (hi : δ[i]? = some (some (.ownK ps))) (h1 : σ[i]? = some (some (.ref p))) (h0 : B.H0 p = none) (hF : F p = none) (hH : H p = some (.dK kvs)) (hk : ps.map (·.1) = kvs.map fun p => keyD p.1) (hd : DqAll K F (kvs.map (·.2)) (ps.map (·.2))) :
    Sd K B (δ.set i (some (.dat (.dict ps)))) b σ (L2.upd F p (.dK kvs)) H := by
  have hil := (List.getElem?_eq_some_iff.mp hi).1
  have x := Ex.new (H := F) (p := p) (o := .dK kvs) hF
  refine ⟨s.toSr.freeze hH h0 hF (fun _ _ z => nomatch z) (fun _ z => nomatch z), by rw [List.length_set, s.len], fun j ej q => ?_, fun j k ej ek w ne hj hk2 oj ok => ?_⟩
  · by_cases z : i = j
    · subst z
      rw [List.getElem?_set_self hil] at q
      cases q
      exact ⟨_, h1, Dq.dct (.inl upd_same) hk (hd.up x)⟩
    · rw [List.getElem?_set_ne z] at q
      obtain ⟨v, k1, k2⟩ := s.at_ j ej q
      refine ⟨v, k1, k2.go x fun oj q' w e1 e2 f _ => ⟨e2, ?_⟩⟩
      have : q' ≠ p := fun y => s.apart i j _ ej _ z hi q rfl oj h1 (by rw [k1, e1, y])
      rw [upd_ne this]
      exact f
  · have no : ∀ (m : Nat) (em : Dv), (δ.set i (some (.dat (.dict ps))))[m]? = some (some em) → em.isOwn = true → δ[m]? = some (some em) := fun m em h om => by
      by_cases z : i = m
      · subst z
        rw [List.getElem?_set_self hil] at h
        cases h
        cases om
      · rw [List.getElem?_set_ne z] at h
        exact h
    exact s.apart j k ej ek w ne (no j ej hj oj) (no k ek hk2 ok) oj ok
theorem thaw_out {b2 : Nat} {F2 H2 : Hp} {kvs : List (Key × V)} (s : Sr K B b F H) (hF : F p = none) (s2 : Sr K B b2 F2 H2) (g2 : Go B (L2.upd F p (.dK kvs)) H F2 H2) : Sr K B b2 (delF F2 p) H2 ∧ Go B F H (delF F2 p) H2 := by
  have hlk : ∀ q ∈ B.lk, q.1 ≠ p := fun q hq e => by
    obtain ⟨u, _, _, z⟩ := s.lkd q hq
    rw [e, hF] at z
    cases z
  have hpn : ∀ y a ns, B.pn = some (y, a, ns) → a ≠ p := fun y a ns h => fun e => by
    have := (s.pen y a ns h).2.2.1
    rw [e, hF] at this
    cases this
  refine ⟨s2.unfz hlk (K01.ex0_none s hF) hpn, fun a u h => ?_, g2.kp, fun a h1 h2 h3 => ?_⟩
  · have ne : a ≠ p := fun e => by rw [e, hF] at h; cases h
    rw [delF_ne ne]
    exact g2.ex _ _ (by rw [upd_ne ne]; exact h)
  · by_cases e : a = p
    · rw [e, delF_same]
      exact .non
    · rw [delF_ne e]
      exact g2.nw a h1 (by rw [upd_ne e]; exact h2) h3
theorem me_thawK {i : Nat} (h : Me K B te (δ.set i (some (.dat (.dict ps)))) b fun e b1 => Flat e ∧ R e b1) (hi : δ[i]? = some (some (.ownK ps)) := by rfl) : Me K B te δ b R := fun σ F H s Q k => by
  obtain ⟨v, h1, p, kvs, rfl, h0, hF, hH, hk, hd, nd⟩ := s.at_ i _ hi
  refine h σ _ H (thaw_in s hi h1 h0 hF hH hk hd) Q fun w e b2 F2 H2 ⟨fl, r⟩ s2 g2 d2 n2 => ?_
  obtain ⟨s3, g3⟩ := thaw_out s.toSr hF s2 g2
  exact k w e b2 (delF F2 p) H2 r s3 g3 (Dr.of (fl.df d2)) (Nw.no (by
    cases e with
    | dat _ => rfl
    | _ => exact fl.elim))
/-- d.clear() -/
theorem mz_dclear {i : Nat} (r : E.nx (δ.set i (some (.ownK []))) b) (hi : δ[i]? = some (some (.ownK ps)) := by rfl) : Mz K B (tDrop (tBM0 K "dict" rDClear (tVar i))) δ b E := fun σ F H s D dd => by
  obtain ⟨v, h1, p, kvs, rfl, h0, hF, hH, hk, hd, nd⟩ := s.at_ i _ hi
  refine ⟨.ref p, h1, ?_⟩
  refine ⟨.inr (.inr (.inl ⟨rfl, .inl ⟨kvs, hH⟩⟩)), p, kvs, rfl, rfl, hH, ?_⟩
  exact dd.nx _ b σ F _ r (s.write hi rfl h1 h0 hF (dK_code hH) ⟨p, [], rfl, h0, hF, upd_same, rfl, .nil, .nil⟩) (Ex.refl F)
end
end Dl
namespace K01
open PySem PySem.Spec PyProof.Rows L2 Gd Evl Dl LamX
section
variable {K : PySem.W.Frag} {B : Base} {F F' H H' : Hp} {v : V} {e : Dv} {δ : Dl.Env} {b : Nat} {σ : L2.St} {d : PyData} {R : Dv → Nat → Prop} {C p : Addr} {T : List (Addr × Str)} {kvs : List (Key × V)} {pl : List Tab}
mutual
theorem dq_del (hF : F p = some (.dK kvs)) : ∀ (d : PyData) (v : V), d.hasDict = false → Dq K F v d → Dq K (delF F p) v d
  | .none, _, _, h => by cases h; exact .non
  | .bool _, _, _, h => by cases h; exact .bl _
  | .int _, _, _, h => by cases h; exact .int _
  | .str _, _, _, h => by cases h; exact .str _
  | .list ds, _, n, h => by
    cases h with
    | @lst a vs _ hr hd =>
      refine .lst ?_ (dq_delAll hF ds vs (by simpa [PyData.hasDict] using n) hd)
      rcases hr with hr | ⟨o, hr⟩
      · exact .inl (by rw [delF_ne (fun e => by rw [e, hF] at hr; cases hr)]; exact hr)
      · exact .inr ⟨o, by rw [delF_ne (fun e => by rw [e, hF] at hr; cases hr)]; exact hr⟩
  | .tuple ds, _, n, h => by
    cases h with
    | @tup a vs _ hr hd =>
      refine .tup ?_ (dq_delAll hF ds vs (by simpa [PyData.hasDict] using n) hd)
      rcases hr with hr | ⟨o, hr⟩
      · exact .inl (by rw [delF_ne (fun e => by rw [e, hF] at hr; cases hr)]; exact hr)
      · exact .inr ⟨o, by rw [delF_ne (fun e => by rw [e, hF] at hr; cases hr)]; exact hr⟩
  | .dict _, _, n, _ => by simp [PyData.hasDict] at n
theorem dq_delAll (hF : F p = some (.dK kvs)) : ∀ (ds : List PyData) (vs : List V), PyData.hasDictAll ds = false → DqAll K F vs ds → DqAll K (delF F p) vs ds
  | [], _, _, h => by cases h; exact .nil
  | d :: ds, _, n, h => by
    have n' : d.hasDict = false ∧ PyData.hasDictAll ds = false := by simpa [PyData.hasDictAll] using n
    cases h with
    | cons h1 h2 => exact .cons (dq_del hF d _ n'.1 h1) (dq_delAll hF ds _ n'.2 h2)
end
theorem hda_of : ∀ {ds : List PyData}, (∀ d ∈ ds, d.hasDict = false) → PyData.hasDictAll ds = false
  | [], _ => by simp [PyData.hasDictAll]
  | d :: r, h => by
    rw [PyData.hasDictAll, h d List.mem_cons_self, hda_of fun x hx => h x (List.mem_cons_of_mem _ hx)]
    rfl
theorem dict_del {a : Addr} {ps : List (PyData × PyData)} (hF : F p = some (.dK kvs)) (ne : a ≠ p) (n : ∀ q ∈ ps, q.2.hasDict = false) (h : Dq K F (.ref a) (.dict ps)) : Dq K (delF F p) (.ref a) (.dict ps) := by
  cases h with
  | @dct _ kvs2 _ hr hk hd =>
    refine .dct ?_ hk (dq_delAll hF _ _ (hda_of fun d hd => ?_) hd)
    · rcases hr with hr | ⟨o, hr⟩
      · exact .inl (by rw [delF_ne ne]; exact hr)
      · exact .inr ⟨o, by rw [delF_ne ne]; exact hr⟩
    · obtain ⟨q, hq, rfl⟩ := List.mem_map.mp hd
      exact n q hq
theorem td_del {l : List (List Str × PyData)} {a : Addr} (hF : F p = some (.dK kvs)) (n : ∀ q ∈ l, q.2.hasDict = false) (h : IsTD K l F (.ref a)) : IsTD K l (delF F p) (.ref a) := by
  obtain ⟨a', kvs2, e, h1, h2, h3⟩ := h
  cases e
  refine ⟨a, kvs2, rfl, by rw [delF_ne (fun e => by rw [e, hF] at h1; cases h1)]; exact h1, h2, dq_delAll hF _ _ (hda_of fun d hd => ?_) h3⟩
  obtain ⟨q, hq, rfl⟩ := List.mem_map.mp hd
  exact n q hq
theorem tab_noDict (t : List (Str × Str) × List Str) : (tabD t).hasDict = false := by
  have c : PyData.hasDictAll (t.1.map colD) = false := hda_of fun d hd => by
    obtain ⟨c, _, rfl⟩ := List.mem_map.mp hd
    simp [colD, PyData.hasDict, PyData.hasDictAll]
  have f : PyData.hasDictAll (t.2.map PyData.str) = false := hda_of fun d hd => by
    obtain ⟨c, _, rfl⟩ := List.mem_map.mp hd
    simp [PyData.hasDict]
  simp [tabD, PyData.hasDict, PyData.hasDictAll, c, f]
theorem IsSchN.del {H0 : Hp} (h : IsSchN K C H0 pl F v) (hF : F p = some (.dK kvs)) (hp : H0 p ≠ none) : IsSch K C pl (delF F p) v := by
  obtain ⟨a, dx, tb, ch, sz, kd, ca, fa, h1, h2, h3, h4, h5, h6, h7, h8, n1, n2⟩ := h
  refine ⟨a, dx, tb, ch, sz, kd, ca, fa, h1, by rw [delF_ne (fun e => by rw [e, hF] at h2; cases h2)]; exact h2, dict_del hF (fun e => hp (e ▸ n1)) (fun q hq => ?_) h3, td_del hF (fun q hq => ?_) h4, dict_del hF (fun e => hp (e ▸ n2)) (fun q hq => ?_) h5, td_del hF (fun q hq => ?_) h6, td_del hF (fun q hq => ?_) h7, td_del hF (fun q hq => ?_) h8⟩
  · obtain ⟨t, _, rfl⟩ := List.mem_map.mp hq
    exact tab_noDict t.2
  · obtain ⟨t, _, rfl⟩ := List.mem_map.mp hq
    simp [PyData.hasDict]
  · obtain ⟨t, _, rfl⟩ := List.mem_map.mp hq
    simp [PyData.hasDict, PyData.hasDictAll]
  · obtain ⟨t, _, hq⟩ := List.mem_flatMap.mp hq
    obtain ⟨c, _, rfl⟩ := List.mem_map.mp hq
    simp [PyData.hasDict]
  · obtain ⟨t, _, hq⟩ := List.mem_flatMap.mp hq
    obtain ⟨c, _, rfl⟩ := List.mem_map.mp hq
    simp [PyData.hasDict]
  · obtain ⟨t, _, hq⟩ := List.mem_flatMap.mp hq
    obtain ⟨c, _, rfl⟩ := List.mem_map.mp hq
    simp [PyData.hasDict]
/-- Schema(given), given an owned dict -/
theorem me_makeO {i : Nat} {X : XK} (hu : B.free = true ∧ B.lk = []) (hp : PlanOk pl) (hs : small (.dict (pl.map planP)) = true) (r : R (.mp (IsSch K C (sortP pl))) b) (hi : δ[i]? = some (some (.ownK (pl.map planP))) := by rfl) :
    Me K B (tMake C (spInit K C) [] X (tCons (tVar i) tNil)) δ b R := fun σ F H s Q k => by
  obtain ⟨v, h1, p, kvs, rfl, h0, hF, hH, hk, hd, nd⟩ := s.at_ i _ hi
  have s1 := thaw_in s hi h1 h0 hF hH hk hd
  have x1 : Ex F (L2.upd F p (.dK kvs)) := Ex.new hF
  have dv : Dq K (L2.upd F p (.dK kvs)) (.ref p) (.dict (pl.map planP)) := .dct (.inl upd_same) hk (hd.up x1)
  refine ⟨_, h1, fun x dx nx ndx ne => ?_⟩
  rw [List.append_nil]
  refine ⟨x, dx, .ref p, H, _, B.sub (L2.upd F p (.dK kvs)) H [] (fun _ _ => False) X, b, .dict (pl.map planP), rfl, rfl, nx, ndx, ne, s1.toSr.sub (.inl rfl), rfl, rfl, rfl, hu.1, hu.2, dv, hs, fun ds e => ?_, fun q F' H' e ok s' is => ⟨rfl, ?_⟩, fun z => ?_⟩
  · cases e
    exact (GP.plan hp).nd
  · have : pl = q := by
      have := PyData.dict.inj e
      have go : ∀ {p q : List Tab}, p.map planP = q.map planP → p = q := by
        intro p
        induction p with
        | nil =>
          intro q h
          cases q with
          | nil => rfl
          | cons _ _ => cases h
        | cons t p ih =>
          intro q h
          cases q with
          | nil => cases h
          | cons u q =>
            rw [List.map_cons, List.map_cons] at h
            injection h with h1 h2
            have e1 : t.1 = u.1 := PyData.str.inj (congrArg Prod.fst h1)
            have e2 : tabD t.2 = tabD u.2 := congrArg Prod.snd h1
            have e3 : t.2 = u.2 := (eqv_tab t.2 u.2).mp (by rw [e2]; exact (eqv_tab u.2 u.2).mpr rfl)
            rw [ih h2, show t = u from Prod.ext e1 e3]
      exact go this
    subst this
    obtain ⟨s2, g2⟩ := s1.toSr.after (.inl rfl) s'
    obtain ⟨s3, g3⟩ := thaw_out s.toSr hF s2 g2
    have hF2 : F' p = some (.dK kvs) := g2.ex _ _ upd_same
    exact k _ (.mp (IsSch K C (sortP pl))) b _ H' r s3 g3 (fun F2 x2 => (is.del hF2 (by rw [hH]; exact fun z => nomatch z)).up x2) (Nw.no rfl)
  · rw [plan_is hp] at z
    cases z
/-- is_name(x) -/
theorem cd_spB {f : PyData → Bool} {E : XK} (hs : small d = true) (k : R (.dat (.bool (f d))) b) : CallD K B (fun vs H Q => spB K f vs H Q E) [.dat d] b R := fun F H s vs hd Q q => by
  obtain ⟨v, rfl, h⟩ := df1 hd
  exact ⟨v, d, rfl, s.dq (show Dq K F v d from h), hs, fun H' x => q _ _ b F H' k (s.grow x) (Go.of_ex x) (.bl _) (Nw.no rfl)⟩
/-- the word of Schema(thing) -/
theorem word_make {i : Nat} (hT : B.T = T) (hu : B.free = true ∧ B.lk = []) (hd : (hideE δ)[i]? = some (some (.dat d))) (hs : small d = true) (ok : DOk d) (r : R (.dat (.str (if isPlanD d = true then "" else "schema"))) b) :
    Me K B (tWord T K fun E => tMake C (spInit K C) [] E (tCons (tVar i) tNil)) δ b R :=
  me_wordT hT fun B' _ hf hl _ hBX hRX => me_make rfl hBX ⟨hf.trans hu.1, hl.trans hu.2⟩ (ma_cons (me_var (e := .dat d) (ma_nil ⟨d, rfl, hs, fun ds e => (ok ds e).1, fun p e hp => by
    have : isPlanD d = true := e ▸ plan_is hp
    rw [if_pos this] at r
    exact r, fun z => by
    rw [if_neg (by rw [z]; decide)] at r
    exact hRX 0 "InvalidSchema" "schema" b rfl rfl r⟩) hd))
end
end K01
set_option Elab.async false
set_option linter.all false
set_option maxRecDepth 100000
set_option maxHeartbeats 4000000
/-! the law's base: the pen is made -/
namespace K01
open PySem PySem.Spec PyProof.Rows L2 Gd Evl Dl LamX
section
variable {K : PySem.W.Frag} {B : Base} {F F' H H' : Hp} {v : V} {e : Dv} {δ : Dl.Env} {b : Nat} {σ : L2.St} {d : PyData} {R : Dv → Nat → Prop} {E : Ed} {p a : Addr} {ms : List Int} {T : List (Addr × Str)} {XE : XK}
/-- the pen's cells alone are frozen -/
def oneF (a : Addr) (ms : List Int) : Hp := fun b => if b = a then some (.lst (ms.map V.int)) else none
abbrev lawB (a p : Addr) (ms : List Int) (T : List (Addr × Str)) (H : Hp) (XE : XK) : Base := ⟨oneF a ms, H, some (p, a, ms), [], T, true, fun _ _ => False, XE⟩
theorem oneF_some {c : Addr} {u : HO} (h : oneF a ms c = some u) : c = a ∧ u = .lst (ms.map V.int) := by
  unfold oneF at h
  split at h
  · rename_i e
    exact ⟨e, (Option.some.inj h).symm⟩
  · cases h
theorem sr_law (hP : PenH H p a ms 0 0) (hT : Tabs T H) (hb : (b : Int) ≤ 2 ^ 39) : Sr K (lawB a p ms T H XE) b (oneF a ms) H where
  le := fun c u h => by
    obtain ⟨rfl, rfl⟩ := oneF_some h
    exact .inl hP.2.1
  nfz := fun c o u h => by
    obtain ⟨_, z⟩ := oneF_some h
    cases z
  ntb := fun c ps h => by
    obtain ⟨_, z⟩ := oneF_some h
    cases z
  ex0 := Ex.refl _
  fr := fun c o h _ _ => h
  dom := fun c h => h
  frN := fun c _ h => .of h
  free := fun _ c u h _ => by
    obtain ⟨rfl, rfl⟩ := oneF_some h
    exact hP.2.1
  lkd := fun q hq => by cases hq
  tabs := hT
  tb0 := fun q hq => by
    obtain ⟨ps, h1, _⟩ := hT q hq
    refine ⟨(fun z => by rw [show H q.1 = none from z] at h1; cases h1), ?_⟩
    cases z : oneF a ms q.1 with
    | none => rfl
    | some u =>
      obtain ⟨e, _⟩ := oneF_some z
      rw [e, hP.2.1] at h1
      cases h1
  pen := fun p' a' ns h => by
    cases h
    refine ⟨(fun z => by have h1 := hP.1; rw [show H p = none from z] at h1; cases h1), ?_, by unfold oneF; rw [if_pos rfl], hP.2.2.1, 0, 0, hP.1, by omega, by omega⟩
    cases z : oneF a ms p with
    | none => rfl
    | some u =>
      obtain ⟨e, _⟩ := oneF_some z
      have h1 := hP.1
      rw [e, hP.2.1] at h1
      exact (pen_ne h1.symm).elim
theorem sd_law {x : V} (hP : PenH H p a ms 0 0) (hT : Tabs T H) (hb : (b : Int) ≤ 2 ^ 39) : Sd K (lawB a p ms T H XE) [none, some .pen, none, none, none, none, none, none, none, none] b [some x, some (.ref p), none, none, none, none, none, none, none, none] (oneF a ms) H where
  toSr := sr_law hP hT hb
  len := rfl
  at_ := fun i e h => by
    match i, h with
    | 1, h =>
      cases h
      exact ⟨_, rfl, p, a, ms, rfl, rfl⟩
    | 0, h => cases h
    | 2, h => cases h
    | 3, h => cases h
    | 4, h => cases h
    | 5, h => cases h
    | 6, h => cases h
    | 7, h => cases h
    | 8, h => cases h
    | 9, h => cases h
    | n + 10, h => simp at h
  apart := fun i j ei ej v ne q1 q2 o1 => by
    match i, q1 with
    | 1, h =>
      cases h
      cases o1
    | 0, h => cases h
    | 2, h => cases h
    | 3, h => cases h
    | 4, h => cases h
    | 5, h => cases h
    | 6, h => cases h
    | 7, h => cases h
    | 8, h => cases h
    | 9, h => cases h
    | n + 10, h => simp at h
theorem law_enter {ts : TS} {D : Ends} (sd : Sd K B δ b σ F H) (rt : ∀ H2, D.rt (.bl true) H2) (m : Mz K B ts δ b { nx := fun _ _ => False, rt := fun e _ => e = .dat (.bool true) }) : ts D σ H :=
  m σ F H sd D ⟨fun _ _ _ _ _ z => z.elim, fun v e b' F' H' z s x dr => by
    subst z
    cases (show Dq K F' v (.bool true) from dr)
    exact rt H', fun _ _ _ _ _ z => z.elim, fun _ _ _ _ _ z => z.elim⟩
theorem nx_go {f : L2.St → Hp → Prop} {v : V} {σ : L2.St} {H : Hp} {i : Nat} (h : f (σ.set i (some v)) H) : gName i v σ H f := h
theorem mz_noB {c : TT} {s1 s2 : TS} (h : MT K B c δ b fun k b' => k = false ∧ Mz K B s2 δ b' E) : Mz K B (tIfS c s1 s2) δ b E := mz_if (h.mono fun k b' ⟨e1, r⟩ => by
  subst e1
  exact ⟨(fun z => nomatch z), fun _ => r⟩)
theorem fit_bools {bs : List Bool} (l : bs.length ≤ 100) : Fit (.list (bs.map .bool)) := (sz_lst (k := 100) (n := 0) (w := 0) (v := 100) (by rw [List.length_map]; exact l) (by decide) (by decide) fun d hd => by
  obtain ⟨c, _, rfl⟩ := List.mem_map.mp hd
  refine ⟨rfl, by simp [PyData.showable], by simp [PyData.leavesShort], by simp [PyData.depth], by simp [PyData.weight]⟩).fit (by decide) (by decide)
end
end K01
set_option Elab.async false
set_option linter.all false
set_option maxRecDepth 100000
set_option maxHeartbeats 4000000
namespace K01
open PySem PySem.Spec PyProof.Rows L2 Gd Evl Dl LamX
abbrev NLw : List Str := ["script", "pen", "turn", "plan", "given", "schema", "seen", "more", "things", "thing"]
section
variable {P : Program} {w : World} {K : PySem.W.Frag} {mg : Str → Option Value} {base : Heap} {f fW C c P1 P2 fM fE : Addr} {fd fdW dM dE : FuncData}
def spLaw (K : PySem.W.Frag) (T : List (Addr × Str)) : Sp := fun vs H Q _ => ∃ (a : Addr) (ns : List Int), vs = [.ref a] ∧ SqL K H a (ns.map V.int) ∧ (∀ p ∈ T, H p.1 = some (.tbl #[])) ∧ ∀ H', Q (.bl true) H'
theorem scLaw : FnScope NLw ["script"] (defScope sLaw) := ⟨rfl, rfl, rfl, by decide +kernel, rfl, by decide +kernel, by decide +kernel⟩
theorem ok_law (T : Bn mg) (hS : SysD K) (M : MkU P w K mg base C fM dM fE dE) (W : WrT K mg fW fdW)
    (hP : HasF P w K mg base CX0 1 "_law_pen" ["script"] (spPen K)) (hPl : HasF P w K mg base CX0 5 "_law_plan" ["pen"] (spD K 1 false [] (spPlan K)))
    (hSh : HasG P w K mg base 5 "_law_shows" ["schema", "plan"] (spD K 2 true [] (spShows K C))) (hRf : HasG P w K mg base 8 "_law_refuses" ["pen", "schema", "plan"] (spD K 3 true [(P1, qR), (P2, qL)] (spRefuses K C))) (hEq : HasG P w K mg base 8 "_law_equals" ["pen", "schema", "plan"] (spD K 3 true [] (spEquals K C)))
    (hB : HasF P w K mg base CX0 4 "_law_bent" ["pen", "plan"] (spD K 2 true [] spBent)) (hLp : HasF P w K mg base CX0 3 "_law_is_plan" ["thing"] (spD K 1 true [] (spIsD isPlanD))) (hO : HasF P w K mg base CX0 3 "_law_odd" ["pen"] (spD K 1 false [] spOdd))
    (hNm : HasF P w K mg base CX0 3 "_law_name" ["pen"] spName) (hN : HasF P w K mg base CX0 1 "is_name" ["thing"] (spB K isNameD)) (hLn : HasF P w K mg base CX0 1 "_law_is_name" ["thing"] (spD K 1 false [] (spIs isNameD)))
    (F : FnP K "law" sLaw f fd) (tb : TabB base mg c P2) (ne : P1 ≠ P2) (hc : fd.code = .ref c) : FnG P w K mg base 9 f fd ["script"] (spLaw K [(P1, qR), (P2, qL)]) := by
  obtain ⟨fP, dP, gP, kP, GP, bP⟩ := hP
  obtain ⟨fPl, dPl, gPl, kPl, GPl, bPl⟩ := hPl
  obtain ⟨fS, dS, gS, kS, GS, bS⟩ := hSh
  obtain ⟨fR, dR, gR, kR, GR, bR⟩ := hRf
  obtain ⟨fQ, dQ, gE, kE, GE, bE⟩ := hEq
  obtain ⟨fB, dB, gB, kB, GB, bB⟩ := hB
  obtain ⟨fLp, dLp, gLp, kLp, GLp, bLp⟩ := hLp
  obtain ⟨fO, dO, gO, kO, GO, bO⟩ := hO
  obtain ⟨fNm, dNm, gNm, kNm, GNm, bNm⟩ := hNm
  obtain ⟨fN, dN, gN, kN, GN, bN⟩ := hN
  obtain ⟨fLn, dLn, gLn, kLn, GLn, bLn⟩ := hLn
  have MF := M.MF
  have bM := M.bM
  obtain ⟨T0, hT0⟩ : ∃ T0, T0 = [(P1, qR), (P2, qL)] := ⟨_, rfl⟩
  rw [← hT0] at GR ⊢
  have inT : (P2, qL) ∈ T0 := by rw [hT0]; exact List.mem_cons_of_mem _ List.mem_cons_self
  have oneT : ∀ p ∈ T0, p.1 = P2 → p.2 = qL := fun p hp e => by
    rw [hT0] at hp
    simp only [List.mem_cons, List.not_mem_nil, or_false] at hp
    rcases hp with rfl | rfl
    · exact absurd e ne
    · rfl
  have sc := scLaw
  refine Gd.FunD.okG F sc (fun vs H Q E h => ?_) (fun cdv A outer s H vs Q hgd hr h hcode => ?_)
  · obtain ⟨a, ns, rfl, _⟩ := h
    rfl
  rw [hc] at hcode
  subst hcode
  refine ⟨_, (pss_cons (ps_set (i := 1) sc.nd rfl (Or.inr rfl) (pe_call GP (hr.mono (by decide)) (by rfl) gP kP bP .nil pass0 (pa_cons (pv 0) pa_nil)))
    (pss_cons (ps_for PassesOwn.never rfl (pi_range1 rfl T.range (pa_cons pe_int pa_nil)) (pg_name (i := 2) sc.nd rfl (Or.inl rfl))
    (pss_cons (ps_set (i := 3) sc.nd rfl (Or.inl rfl) (pe_call GPl (hr.mono (by decide)) (by rfl) gPl kPl bPl .nil pass0 (pa_cons (pv 1) pa_nil)))
    (pss_cons (ps_set (i := 4) sc.nd rfl (Or.inl rfl) (pe_callTy call_dictD (by rfl) T.dict (by decide +kernel) (pa_cons (pv 3) pa_nil)))
    (pss_cons (ps_par (i := 5) (j := 6) rfl sc.nd rfl rfl (by decide) rfl rfl (pa_cons (pe_make M.mkd MF (hr.mono (by decide)) (by rfl) M.g bM .nil (passes_call LamX.takes0 (fun _ _ _ _ h => h)) (pa_cons (pv 4) pa_nil)) (pa_cons (pe_callB (call_repr hgd hr.units hS) (by rfl) T.repr (by decide +kernel) (pa_cons (pv 4) pa_nil)) pa_nil)) (by rfl))
    (pss_cons (ps_if (pt_cmpR op_ne (pe_callB (call_repr hgd hr.units hS) (by rfl) T.repr (by decide +kernel) (pa_cons (pv 4) pa_nil)) (pv 6) (nomark _)) (pss_one (ps_ret pe_bl)) pss_nil)
    (pss_cons (ps_expr (pe_dclear (pv 4)))
    (pss_cons (ps_if (PW.pt (pw_or (pt_not (pt_val (pe_callG GS hgd (hr.mono (by decide)) (by rfl) gS kS bS (pa_cons (pv 5) (pa_cons (pv 3) pa_nil))))) (pw_or (pt_not (pt_val (pe_callG GR hgd (hr.mono (by decide)) (by rfl) gR kR bR (pa_cons (pv 1) (pa_cons (pv 5) (pa_cons (pv 3) pa_nil)))))) (pw_or1 (pt_not (pt_val (pe_callG GE hgd (hr.mono (by decide)) (by rfl) gE kE bE (pa_cons (pv 1) (pa_cons (pv 5) (pa_cons (pv 3) pa_nil)))))))))) (pss_one (ps_ret pe_bl)) pss_nil)
    (pss_one (ps_for PassesOwn.never rfl (pi_range1 rfl T.range (pa_cons pe_int pa_nil)) (pg_name (i := 7) sc.nd rfl (Or.inl rfl))
    (pss_cons (ps_set (i := 9) sc.nd rfl (Or.inr rfl) (pe_call GB (hr.mono (by decide)) (by rfl) gB kB bB .nil pass0 (pa_cons (pv 1) (pa_cons (pv 3) pa_nil))))
    (pss_cons (ps_set (i := 6) sc.nd rfl (Or.inl rfl) (pe_callB (call_repr hgd hr.units hS) (by rfl) T.repr (by decide +kernel) (pa_cons (pv 9) pa_nil)))
    (pss_one (ps_if (PW.pt (pw_or (pt_cmpR op_ne (pe_word (T := T0) (k := 6) W.t W.d W.g (by rfl) tb rfl inT oneT (hr.mono (by decide)) (lamS_by (sc := (defScope sLaw)) (by decide +kernel)) (by rfl) (fun _ _ _ _ _ => rfl) (fun A outer s H E f c' hr => pe_make M.mkd MF (hr.mono (by decide)) (by rfl) M.g bM .nil (passes_call (takes_of rfl rfl rfl rfl) (fun _ _ _ _ h => h)) (pa_cons (pv 9) pa_nil))) (pe_ifExp (pt_val (pe_call GLp (hr.mono (by decide)) (by rfl) gLp kLp bLp .nil pass0 (pa_cons (pv 9) pa_nil))) pe_str pe_str) (nomark _)) (pw_or1 (pt_cmpR op_ne (pe_callB (call_repr hgd hr.units hS) (by rfl) T.repr (by decide +kernel) (pa_cons (pv 9) pa_nil)) (pv 6) (nomark _))))) (pss_one (ps_ret pe_bl)) pss_nil)))))))))))))
    (pss_cons (ps_set (i := 8) sc.nd rfl (Or.inl rfl) (pe_op op_cat (pe_lc (own := [("turn", 2)]) (g := gName 2) (tt := tYes) rfl sc.nd (pi_range1 rfl T.range (pa_cons pe_int pa_nil)) (blkOk_by (N := NLw) (sc := defScope sLaw) (by decide +kernel)) (fun _ _ _ _ _ => pg_name (i := 2) sc.nd rfl (Or.inl rfl)) (fun _ _ _ _ _ => pts_nil) (fun _ _ _ _ _ => (pe_call GO (hr.mono (by decide)) (by rfl) gO kO bO .nil pass0 (pa_cons (pv 1) pa_nil)))) (pe_lst (pa_cons (pe_lst pa_nil) (pa_cons pe_dnewK (pa_cons (pe_lst (pa_cons pe_str pa_nil)) (pa_cons (pe_op op_mulS pe_str pe_int) (pa_cons (pe_op op_mulS pe_str pe_int) (pa_cons (pe_call GNm (hr.mono (by decide)) (by rfl) gNm kNm bNm .nil pass0 (pa_cons (pv 1) pa_nil)) (pa_cons (pe_op op_mulS pe_str pe_int) pa_nil))))))))))
    (pss_one (ps_ret (pe_cmpR op_eq (pe_callB (call_repr hgd hr.units hS) (by rfl) T.repr (by decide +kernel) (pa_cons (pe_lc (own := [("thing", 9)]) (g := gName 9) (tt := tYes) rfl sc.nd (pi_list (pv 8)) (blkOk_by (N := NLw) (sc := defScope sLaw) (by decide +kernel)) (fun _ _ _ _ _ => pg_name (i := 9) sc.nd rfl (Or.inl rfl)) (fun _ _ _ _ _ => pts_nil) (fun _ _ _ _ _ => (pe_call GN (hr.mono (by decide)) (by rfl) gN kN bN .nil pass0 (pa_cons (pv 9) pa_nil)))) pa_nil)) (pe_callB (call_repr hgd hr.units hS) (by rfl) T.repr (by decide +kernel) (pa_cons (pe_lc (own := [("thing", 9)]) (g := gName 9) (tt := tYes) rfl sc.nd (pi_list (pv 8)) (blkOk_by (N := NLw) (sc := defScope sLaw) (by decide +kernel)) (fun _ _ _ _ _ => pg_name (i := 9) sc.nd rfl (Or.inl rfl)) (fun _ _ _ _ _ => pts_nil) (fun _ _ _ _ _ => (pe_call GLn (hr.mono (by decide)) (by rfl) gLn kLn bLn .nil pass0 (pa_cons (pv 9) pa_nil)))) pa_nil)) (nomark _))))))), ?_⟩
  obtain ⟨a, ns, rfl, hs, ht, hq⟩ := h
  refine ⟨.ref a, rfl, a, ns, rfl, hs, fun p a2 ms H' hp hPen sm => ?_⟩
  have tabs : Tabs T0 H' := fun q hq => TabS.nil (sm _ _ (ht q hq))
  refine nx_go ?_
  dsimp only
  refine law_enter (D := { nx := fun _ H' => Q .non H', rt := Q }) (b := 1065) (sd_law (K := K) (XE := C8.E0) hPen tabs (by decide)) (fun H2 => hq H2) ?_
  clear hPen sm ht hq hs hp
  have hul : (lawB a2 p ms T0 H' C8.E0).free = true ∧ (lawB a2 p ms T0 H' C8.E0).lk = [] := ⟨rfl, rfl⟩
  have hT' : (lawB a2 p ms T0 H' C8.E0).T = T0 := rfl
  generalize lawB a2 p ms T0 H' C8.E0 = B at hul hT' ⊢
  refine mz_seq (mz_for (mi_rng (ma_cons (me_int (ma_nil ⟨3, rfl, by decide, by decide, fun i δ c => 18 + 349 * (3 - i) ≤ c ∧ ∃ x2 x3 x4 x5 x6 x7 x8 x9, δ = [none, some .pen, x2, x3, x4, x5, x6, x7, x8, x9], ⟨Nat.le_refl 1065, none, none, none, none, none, none, none, none, rfl⟩, ?_, ?_⟩)))))
  · rintro i d δ c hi ⟨hb, x2, x3, x4, x5, x6, x7, x8, x9, rfl⟩
    have hil : i < 3 := by
      have := (List.getElem?_eq_some_iff.mp hi).1
      rw [intsD_len] at this
      exact this
    obtain ⟨c0, hc0⟩ : ∃ c0, c0 = 18 + 349 * (3 - (i + 1)) := ⟨_, rfl⟩
    refine mg_name (mz_less (n := c0 + 349) (by omega) ?_)
    refine mz_seq (mz_setF (me_call (.inl rfl) (fun z => nomatch z) (ma_cons (me_var (e := .pen) (ma_nil ⟨rfl, c0 + 109, rfl, rfl, fun pl hp => ?_⟩)))))
    have asP : ∀ F v, PlanX K pl F v → Dq K F v (.dict (pl.map planP)) := fun F v h => DictX.dq h
    have gp := K01.GP.plan hp
    have bp := gp.bok (by decide)
    -- given
    refine mz_seq (mz_set (me_cb (ma_cons (me_as (P := PlanX K pl) rfl asP (ma_nil (cd_dictD gp.nd ?_))))))
    refine mz_env (δ' := [none, some .pen, some (.dat d), some (.mp (PlanX K pl)), some (.ownK (pl.map planP)), x5, x6, x7, x8, x9]) rfl ?_
    refine mz_seq (mz_parOO (by decide) (by show 5 < 10; decide) (me_makeO (i := 4) hul hp bp.sm (me_thawK (i := 4) (me_cb (ma_cons (me_var (e := .dat (.dict (pl.map planP))) (ma_nil (cd_repr bp.fit ⟨True.intro, ?_⟩))))))))
    obtain ⟨SN, hSN⟩ : ∃ SN, SN = (PyData.dict (pl.map planP)).shown := ⟨_, rfl⟩
    rw [← hSN]
    refine mz_env (δ' := [none, some .pen, some (.dat d), some (.mp (PlanX K pl)), some (.ownK (pl.map planP)), some (.mp (IsSch K C (sortP pl))), some (.dat (.str SN)), x7, x8, x9]) rfl ?_
    refine mz_seq (mz_no (mt_test (me_op (me_thawK (i := 4) (me_cb (ma_cons (me_var (e := .dat (.dict (pl.map planP))) (ma_nil (cd_repr bp.fit ⟨True.intro, ?_⟩)))))))) (mz_next ?_))
    · rw [← hSN]
      exact me_var (e := .dat (.str SN)) (opd_neSame ⟨_, rfl, rfl, rfl⟩)
    refine mz_seq (mz_dclear (i := 4) ?_)
    refine mz_env (δ' := [none, some .pen, some (.dat d), some (.mp (PlanX K pl)), some (.ownK []), some (.mp (IsSch K C (sortP pl))), some (.dat (.str SN)), x7, x8, x9]) rfl ?_
    -- shows, refuses, equals
    refine mz_seq (mz_noB (mt_or (mt_not (mt_B (me_call (.inl rfl) (fun _ => hul) (ma_cons (me_var (e := .mp (IsSch K C (sortP pl))) (ma_cons (me_as (P := PlanX K pl) rfl asP (ma_nil ?_)))))))))) 
    refine ⟨rfl, pl, rfl, hp, true, rfl, fun _ => ?_, fun z => nomatch z⟩
    refine mt_or (mt_not (mt_B (me_call (.inr hT'.symm) (fun _ => hul) (ma_cons (me_var (e := .pen) (ma_cons (me_var (e := .mp (IsSch K C (sortP pl))) (ma_cons (me_var (e := .mp (PlanX K pl)) (ma_nil ?_))))))))))
    refine ⟨rfl, c0 + 85, pl, rfl, hp, rfl, true, rfl, fun _ => ?_, fun z => nomatch z⟩
    refine mt_not (mt_B (me_call (.inl rfl) (fun _ => hul) (ma_cons (me_var (e := .pen) (ma_cons (me_var (e := .mp (IsSch K C (sortP pl))) (ma_cons (me_as (P := PlanX K pl) rfl asP (ma_nil ?_)))))))))
    refine ⟨rfl, c0 + 84, pl, rfl, hp, rfl, true, rfl, rfl, mz_next ?_⟩
    -- bent things
    refine mz_for (mi_rng (ma_cons (me_int (ma_nil ⟨14, rfl, by decide, by decide, fun j δ c => c0 + 6 * (14 - j) ≤ c ∧ ∃ y6 y7 y9, δ = [none, some .pen, some (.dat d), some (.mp (PlanX K pl)), some (.ownK []), some (.mp (IsSch K C (sortP pl))), y6, y7, x8, y9], ⟨by omega, _, _, _, rfl⟩, ?_, ?_⟩))))
    · rintro j d2 δ c hj ⟨hb2, y6, y7, y9, rfl⟩
      have hjl : j < 14 := by
        have := (List.getElem?_eq_some_iff.mp hj).1
        rw [intsD_len] at this
        exact this
      obtain ⟨c1, hc1⟩ : ∃ c1, c1 = c0 + 6 * (14 - (j + 1)) := ⟨_, rfl⟩
      refine mg_name (mz_less (n := c1 + 6) (by omega) ?_)
      refine mz_seq (mz_setF (me_call (.inl rfl) (fun _ => hul) (ma_cons (me_var (e := .pen) (ma_cons (me_as (P := PlanX K pl) rfl asP (ma_nil ⟨rfl, c1, pl, rfl, hp, rfl, fun th bk => ?_⟩)))))))
      refine mz_seq (mz_setF (me_cb (ma_cons (me_var (e := .dat th) (ma_nil (cd_repr bk.fit ?_))))))
      refine mz_env (δ' := [none, some .pen, some (.dat d), some (.mp (PlanX K pl)), some (.ownK []), some (.mp (IsSch K C (sortP pl))), some (.dat (.str th.shown)), some (.dat d2), x8, some (.dat th)]) rfl ?_
      obtain ⟨wd, hwd⟩ : ∃ wd : Str, wd = if isPlanD th = true then Str.ofString "" else Str.ofString "schema" := ⟨_, rfl⟩
      refine mz_no ?_ (mz_next ⟨by omega, _, _, _, rfl⟩)
      refine mt_or (mt_test (me_op (word_make hT' hul rfl bk.sm bk.dok ?_)))
      rw [← hwd]
      refine me_just (.dat (.str wd)) (me_if (mt_B (me_call (.inl rfl) (fun _ => hul) (ma_cons (me_var (e := .dat th) (ma_nil ⟨rfl, th, rfl, bk.sm, bk.dok, isPlanD th, rfl, fun k => ?_, fun k => ?_⟩)))))) ?_
      · rw [if_pos k] at hwd
        exact me_str ⟨by rw [hwd], rfl⟩
      · rw [if_neg (by rw [k]; decide)] at hwd
        exact me_str ⟨by rw [hwd], rfl⟩
      refine opd_neSame ⟨_, rfl, fun _ => ?_, fun z => nomatch z⟩
      refine mt_test (me_op (me_cb (ma_cons (me_var (e := .dat th) (ma_nil (cd_repr bk.fit ?_))))))
      exact me_var (e := .dat (.str th.shown)) (opd_neSame ⟨_, rfl, rfl, rfl⟩)
    · rintro δ c ⟨hb2, y6, y7, y9, rfl⟩
      rw [intsD_len] at hb2
      exact ⟨by omega, _, _, _, _, _, _, _, _, rfl⟩
  rintro δ c ⟨hb, x2, x3, x4, x5, x6, x7, x8, x9, rfl⟩
  rw [intsD_len] at hb
  refine mz_less (n := 18) (by omega) ?_
  -- things
  refine mz_seq (mz_setF (me_op (me_lcN (j := 2) (mi_rng (ma_cons (me_int (ma_nil ?_)))))))
  refine ⟨9, rfl, by decide, by decide, by rw [intsD_len]; decide, fun i acc c => c = 9 + (9 - i) ∧ acc.length = i ∧ ∀ d ∈ acc, d ∈ oddD, ⟨rfl, rfl, fun d hd => by cases hd⟩, ?_, ?_⟩
  · rintro i d acc c hi ha ⟨rfl, hl, ho⟩
    have hil : i < 9 := by
      have := (List.getElem?_eq_some_iff.mp hi).1
      rw [intsD_len] at this
      exact this
    refine mt_yes ⟨fun _ => me_call (.inl rfl) (fun z => nomatch z) (ma_cons (me_var (e := .pen) (ma_nil ⟨rfl, 9 + (9 - (i + 1)), rfl, by omega, fun o oo => ⟨o, rfl, rfl, ?_, fun x hx => ?_⟩⟩))), fun z => nomatch z⟩
    · rw [List.length_append, hl] <;> rfl
    · rcases List.mem_append.mp hx with hx | hx
      · exact ho x hx
      · have : x = o := by simpa using hx
        rw [this]
        exact oo
  rintro acc c ⟨rfl, hl, ho⟩
  rw [intsD_len] at hl
  have hl : acc.length = 9 := hl
  refine me_less (n := 9) (by rw [intsD_len]; decide) (me_lst ?_)
  refine ma_cons (me_lst (ma_nil ⟨[], rfl, by show 0 ≤ 100000; decide, ?_⟩))
  refine ma_cons (me_dnewK (ma_cons (me_lst (ma_cons (me_str (ma_nil ⟨[.str "a"], rfl, le1, ?_⟩))))))
  refine ma_cons (me_op (me_str (me_int ?_)))
  refine opd_mulS (z := "a") (k := 9) (by decide) (by decide) (by decide +kernel) (by decide +kernel) ?_
  refine ma_cons (me_op (me_str (me_int ?_)))
  refine opd_mulS (z := "a") (k := 8) (by decide) (by decide) (by decide +kernel) (by decide +kernel) ?_
  refine ma_cons (me_callV (ma_cons (me_var (e := .pen) (ma_nil ?_))))
  refine cd_name (b := 0) fun nm nmok => ?_
  refine ma_cons (me_op (me_str (me_int ?_)))
  refine opd_mulS (z := "z") (k := 400) (by decide) (by decide) (by decide +kernel) (by decide +kernel) ?_
  obtain ⟨L7, hL7⟩ : ∃ L7 : List PyData, L7 = [.list [], .dict [], .list [.str "a"], .str (repS "a" (9 : Int).toNat), .str (repS "a" (8 : Int).toNat), .str nm, .str (repS "z" (400 : Int).toNat)] := ⟨_, rfl⟩
  refine ma_nil ⟨L7, by rw [hL7] <;> rfl, by show 7 ≤ 100000; decide, ?_⟩
  have l7 : L7.length = 7 := by rw [hL7] <;> rfl
  refine opd_cat (as := acc) (bs := L7) (by omega) ?_
  obtain ⟨TH, hTH⟩ : ∃ TH, TH = acc ++ L7 := ⟨_, rfl⟩
  have thl : TH.length = 16 := by rw [hTH, List.length_append, hl, l7]
  have ths : ∀ d ∈ TH, small d = true := fun d hd => by
    rw [hTH] at hd
    rcases List.mem_append.mp hd with hd | hd
    · exact odd_small d (ho d hd)
    · rw [hL7] at hd
      simp only [List.mem_cons, List.not_mem_nil, or_false] at hd
      rcases hd with rfl | rfl | rfl | rfl | rfl | rfl | rfl
      · rfl
      · rfl
      · decide +kernel
      · decide +kernel
      · decide +kernel
      · exact small_name nmok
      · decide +kernel
  rw [← hTH]
  refine mz_env (δ' := [none, some .pen, x2, x3, x4, x5, x6, x7, some (.dat (.list TH)), x9]) rfl ?_
  have eL : (TH.map fun d => PyData.bool (isNameD d)) = (TH.map isNameD).map .bool := by
    rw [List.map_map]
    rfl
  have fitL : Fit (.list ((TH.map isNameD).map .bool)) := fit_bools (by rw [List.length_map]; omega)
  refine mz_ret (me_op (me_cb (ma_cons (me_map (j := 9) (mi_list (me_var (e := .dat (.list TH)) ⟨_, rfl, by omega, fun d => .bool (isNameD d), fun d hd => ?_, ?_⟩))))))
  · exact me_callV (ma_cons (me_var (e := .dat d) (ma_nil (cd_spB (ths d hd) ⟨rfl, rfl⟩))))
  rw [eL]
  refine ma_nil (cd_repr fitL (me_cb (ma_cons (me_map (j := 9) (mi_list (me_var (e := .dat (.list TH)) ⟨_, rfl, by omega, fun d => .bool (isNameD d), fun d hd => ?_, ?_⟩))))))
  · exact me_call (.inl rfl) (fun z => nomatch z) (ma_cons (me_var (e := .dat d) (ma_nil ⟨rfl, d, rfl, ths d hd, rfl, rfl⟩)))
  rw [eL]
  refine ma_nil (cd_repr fitL ?_)
  exact opd_eqSame rfl
end
end K01
set_option Elab.async false
set_option linter.all false
set_option maxRecDepth 100000
set_option maxHeartbeats 4000000
/-! a head by facts, defs by the places of their objects (a property's getter too), and the empty tables of code objects -/
namespace Hy
open PySem PySem.Spec PyProof.Rows L2 He
/-! what the module's names reach: functions, their code, classes, their namespaces, properties' getters -/
def refsS (o : Obj) : List Addr := match o.data with
  | .dict es _ => es.toList.flatMap fun e => refV e.val
  | .func fd => refV fd.code
  | .cls cd => cd.ns :: cd.mro.flatMap refV
  | .fields vs => (match o.cls with
    | .type n => (match decide (n = "property") with
      | true => vs.toList.flatMap refV
      | false => [])
    | _ => [])
  | _ => []
def growS (g : Addr → Option Obj) (as : List Addr) : List Addr := (as ++ as.flatMap fun a => match g a with
  | some o => refsS o
  | none => []).eraseDups
def asS (g : Addr → Option Obj) : Nat → List Addr
  | 0 => [mainGlobals]
  | n + 1 => growS g (asS g n)
/-- a def by the place of its object -/
structure DA where
  at_ : PySem.W.Frag → Addr
  name : Str
  qual : Str
  params : Arguments
  body : List Stmt
  scope : Scope
def DA.val (d : DA) : FnW := some (d.name, d.qual, d.params, .stmts d.body, d.scope, mainGlobals, [], builtinsNs)
def fnA (K : PySem.W.Frag) (a : Addr) : FnW := match K.lookup a with
  | some ⟨_, _, .func fd, _⟩ => some (fd.name, fd.qualname, fd.params, fd.body, fd.scope, fd.globals, fd.closure, fd.builtins)
  | _ => none
def DA.ok (K : PySem.W.Frag) (d : DA) : Bool := PySem.W.keepIn K (.ref (d.at_ K)) && (match K.lookup (d.at_ K) with
  | some ⟨_, _, .func fd, _⟩ => PySem.W.codeIn K fd.code d.qual && dflB K fd.defaults []
  | _ => false)
theorem DA.funD {K : PySem.W.Frag} {d : DA} (e : fnA K (d.at_ K) = d.val) (c : d.ok K = true) : ∃ fd, FunD K d.name d.qual d.params d.body d.scope [] [] (d.at_ K) fd := by
  obtain ⟨kp, c2⟩ := ba c
  unfold fnA at e
  cases q : K.lookup (d.at_ K) with
  | none =>
    rw [q] at c2
    cases c2
  | some o =>
    obtain ⟨oc, od, dt, osl⟩ := o
    rw [q] at c2 e
    cases dt with
    | func fd =>
      obtain ⟨n1, n2, n3, n4, n5, n6, n7, n8, n9, n10, n11, n12, n13, n14, n15⟩ := fd
      have e2 : (some (n1, n2, n3, n4, n5, n6, n7, n15) : FnW) = some (d.name, d.qual, d.params, .stmts d.body, d.scope, mainGlobals, [], builtinsNs) := e
      simp only [Option.some.injEq, Prod.mk.injEq] at e2
      obtain ⟨h1, h2, h3, h4, h5, h6, h7, h8⟩ := e2
      subst h1 h2 h3 h4 h5 h6 h7 h8
      obtain ⟨k1, k2⟩ := ba (show (PySem.W.codeIn K n13 d.qual && dflB K n8 []) = true from c2)
      exact ⟨_, ⟨oc, od, n8, n9, n10, n11, n12, n13, n14, osl, rfl, q, k1, dflB_ok k2, .inl rfl⟩, kp⟩
    | _ => cases c2
/-! code objects and their tables -/
def cOf (K : PySem.W.Frag) (x : Str) : Addr := match K.lookup (ga K x) with
  | some ⟨_, _, .func fd, _⟩ => (match fd.code with
    | .ref c => c
    | _ => 0)
  | _ => 0
def pAt (K : PySem.W.Frag) (c : Addr) : Addr := match K.lookup c with
  | some ⟨_, _, .fields vs, _⟩ => (match vs.getD 11 .none with
    | .ref P => P
    | _ => 0)
  | _ => 0
def pOf (K : PySem.W.Frag) (x : Str) : Addr := pAt K (cOf K x)
def isStr : Value → Bool
  | .str _ _ => true
  | _ => false
def isInt : Value → Bool
  | .int _ _ => true
  | _ => false
def isBl : Value → Bool
  | .bool _ => true
  | _ => false
theorem isStr_ok {v : Value} (h : isStr v = true) : ∃ x t, v = .str x t := by
  cases v <;> first | exact ⟨_, _, rfl⟩ | cases h
theorem isInt_ok {v : Value} (h : isInt v = true) : ∃ i t, v = .int i t := by
  cases v <;> first | exact ⟨_, _, rfl⟩ | cases h
theorem isBl_ok {v : Value} (h : isBl v = true) : ∃ b, v = .bool b := by
  cases v <;> first | exact ⟨_, rfl⟩ | cases h
def codeB (K : PySem.W.Frag) (x : Str) : Bool := (match K.lookup (ga K x) with
  | some ⟨_, _, .func fd, _⟩ => decide (fd.code = .ref (cOf K x))
  | _ => false) && ((match K.lookup (cOf K x) with
  | some ⟨.type n, _, .fields vs, _⟩ => decide (n = "code") && (decide (vs[11]? = some (.ref (pOf K x))) && (isStr (vs.getD 18 .none) && (isInt (vs.getD 7 .none) && (isBl (vs.getD 9 .none) && isInt (vs.getD 10 .none)))))
  | _ => false) && (decide (cOf K x ≠ pOf K x) && (K.lookup (pOf K x)).isNone))
theorem codeB_ok {K : PySem.W.Frag} {x : Str} (h : codeB K x = true) : (∀ oc od fd osl, K.lookup (ga K x) = some ⟨oc, od, .func fd, osl⟩ → fd.code = .ref (cOf K x)) ∧ (∀ h : Heap, K.In h → PySem.W.CodeHd h (cOf K x) (pOf K x)) ∧ K.lookup (pOf K x) = none := by
  obtain ⟨h1, h⟩ := ba h
  obtain ⟨h2, h⟩ := ba h
  obtain ⟨h3, h4⟩ := ba h
  refine ⟨fun oc od fd osl e => ?_, fun hp X => ?_, Option.isNone_iff_eq_none.mp h4⟩
  · rw [e] at h1
    exact of_decide_eq_true h1
  · cases q : K.lookup (cOf K x) with
    | none =>
      rw [q] at h2
      cases h2
    | some o =>
      obtain ⟨oc, od, dt, osl⟩ := o
      rw [q] at h2
      cases oc with
      | type n =>
        cases dt with
        | fields vs =>
          obtain ⟨n1, h2⟩ := ba (show (decide (n = "code") && (decide (vs[11]? = some (.ref (pOf K x))) && (isStr (vs.getD 18 .none) && (isInt (vs.getD 7 .none) && (isBl (vs.getD 9 .none) && isInt (vs.getD 10 .none)))))) = true from h2)
          obtain ⟨n2, h2⟩ := ba h2
          obtain ⟨n3, h2⟩ := ba h2
          obtain ⟨n4, h2⟩ := ba h2
          obtain ⟨n5, n6⟩ := ba h2
          obtain ⟨file, tf, e3⟩ := isStr_ok n3
          obtain ⟨fl, tg, e4⟩ := isInt_ok n4
          obtain ⟨inF, e5⟩ := isBl_ok n5
          obtain ⟨tx, tt, e6⟩ := isInt_ok n6
          have e2 : vs[11]? = some (.ref (pOf K x)) := of_decide_eq_true n2
          refine ⟨_, vs, file, tf, fl, tg, inF, tx, tt, X _ _ q, congrArg Value.type (of_decide_eq_true n1), rfl, e2, ?_, e3, e4, e5, e6, of_decide_eq_true h3⟩
          rw [Array.getD_eq_getD_getElem?, e2]
          rfl
        | _ => cases h2
      | _ => cases dt <;> cases h2
def emptyB : Option Obj → Bool
  | some ⟨.none, none, .fields vs, sl⟩ => decide (vs.toList = []) && sl.toList.isEmpty
  | _ => false
theorem emptyB_ok {o : Option Obj} (h : emptyB o = true) : o = some Gd.emptyT := by
  cases o with
  | none => cases h
  | some o =>
    obtain ⟨oc, od, dt, osl⟩ := o
    cases oc with
    | none =>
      cases od with
      | none =>
        cases dt with
        | fields vs =>
          obtain ⟨h1, h2⟩ := ba (show (decide (vs.toList = []) && osl.toList.isEmpty) = true from h)
          have e1 : vs = #[] := Array.toList_inj.mp (of_decide_eq_true h1)
          have e2 : osl = #[] := Array.toList_inj.mp (List.isEmpty_iff.mp h2)
          rw [e1, e2]
        | _ => cases h
      | some a => cases dt <;> cases h
    | _ => cases od <;> cases dt <;> cases h
/-! the Hook -/
abbrev AlY : Type := Bool × List FnW
def factB (fa : List Fa) (fn : List DA) (ex : PySem.W.Frag → Bool) (ts : List Str) (K : PySem.W.Frag) : Bool := (fa.all fun f => f.ok K) && ((fn.all fun d => d.ok K) && (ex K && ts.all fun x => codeB K x))
def SaysY (fa : List Fa) (fn : List DA) (ex : PySem.W.Frag → Bool) (ts : List Str) (K : PySem.W.Frag) : Prop := (factB fa fn ex ts K, fn.map fun d => fnA K (d.at_ K)) = ((true, fn.map DA.val) : AlY)
def frS (n : Nat) (g : Addr → Option Obj) : PySem.W.Frag := frG g (cStatics :: sysModules :: asS g n)
def obsY (fa : List Fa) (fn : List DA) (ex : PySem.W.Frag → Bool) (ts : List Str) (g : Addr → Option Obj) (K : PySem.W.Frag) : AlY := (factB fa fn ex ts K && ts.all fun x => emptyB (g (pOf K x)), fn.map fun d => fnA K (d.at_ K))
def obsYG (n : Nat) (fa : List Fa) (fn : List DA) (ex : PySem.W.Frag → Bool) (ts : List Str) (g : Addr → Option Obj) : AlY := obsY fa fn ex ts g (frS n g)
def hookY (n : Nat) (fa : List Fa) (fn : List DA) (ex : PySem.W.Frag → Bool) (ts : List Str) : PySem.W.Hook where
  α := AlY
  obs := fun s => obsYG n fa fn ex ts s.heap.get?
  val := fun _ => (true, fn.map DA.val)
  says := fun _ h => ∃ K : PySem.W.Frag, K.In h ∧ SaysY fa fn ex ts K ∧ ∀ x ∈ ts, h.get? (pOf K x) = some Gd.emptyT
  of := fun _ s e => by
    have e1 : (factB fa fn ex ts (frS n s.heap.get?) && ts.all fun x => emptyB (s.heap.get? (pOf (frS n s.heap.get?) x))) = true := congrArg (fun z : AlY => z.1) e
    have e2 : (fn.map fun d => fnA (frS n s.heap.get?) (d.at_ (frS n s.heap.get?))) = fn.map DA.val := congrArg (fun z : AlY => z.2) e
    obtain ⟨e3, e4⟩ := ba e1
    exact ⟨_, frG_in, Prod.ext e3 e2, fun x hx => emptyB_ok (List.all_eq_true.mp e4 x hx)⟩
  keeps := fun _ _ _ ⟨K, hK, c, t⟩ k => ⟨K, PySem.W.Frag.In.keeps hK k, c, fun x hx => k _ _ (t x hx)⟩
theorem obsYG_eq {n : Nat} {fa : List Fa} {fn : List DA} {ex : PySem.W.Frag → Bool} {ts : List Str} {g : Addr → Option Obj} {s : Shared} (h : ∀ a, g a = s.heap.get? a) : obsYG n fa fn ex ts g = (hookY n fa fn ex ts).obs s := by
  have e : g = s.heap.get? := funext h
  rw [e] <;> rfl
section
variable {fa : List Fa} {fn : List DA} {ex : PySem.W.Frag → Bool} {ts : List Str} {K : PySem.W.Frag}
theorem SaysY.f (c : SaysY fa fn ex ts K) : factB fa fn ex ts K = true := congrArg (fun z : AlY => z.1) c
theorem SaysY.fact (c : SaysY fa fn ex ts K) {f : Fa} (h : f ∈ fa) : f.ok K = true := List.all_eq_true.mp (ba c.f).1 f h
theorem SaysY.x (c : SaysY fa fn ex ts K) : ex K = true := (ba (ba (ba c.f).2).2).1
theorem SaysY.code (c : SaysY fa fn ex ts K) {x : Str} (h : x ∈ ts) : codeB K x = true := List.all_eq_true.mp (ba (ba (ba c.f).2).2).2 x h
theorem SaysY.def_ (c : SaysY fa fn ex ts K) (i : Nat) {d : DA} (h : fn[i]? = some d := by rfl) : ∃ fd, FunD K d.name d.qual d.params d.body d.scope [] [] (d.at_ K) fd := by
  have c2 := (ba (ba c.f).2).1
  have e : (fn.map fun d => fnA K (d.at_ K)) = fn.map DA.val := congrArg (fun z : AlY => z.2) c
  have e2 : (fn.map fun d => fnA K (d.at_ K))[i]? = (fn.map DA.val)[i]? := by rw [e]
  rw [List.getElem?_map, List.getElem?_map, h] at e2
  exact DA.funD (Option.some.inj e2) (List.all_eq_true.mp c2 d (List.mem_of_getElem? h))
end
/-! properties -/
def getterOf (K : PySem.W.Frag) (C : Addr) (f : Str) : Addr := match PySem.W.recIn K (ma K C f) "property" with
  | some (.ref g :: _) => g
  | _ => 0
def propB (K : PySem.W.Frag) (C : Addr) (f : Str) : Bool := eqO (PySem.W.findIn K (.ref C) f) (some (some (.ref (ma K C f)))) && (eqO (PySem.W.specialIn K (.ref (ma K C f)) "__get__") (some (some (.builtin "property.__get__"))) && (decide (PySem.W.takesIn K (.ref (ma K C f)) = some true) &&
  (match PySem.W.recIn K (ma K C f) "property" with
  | some (.ref g :: _) => true
  | _ => false)))
theorem propB_ok {K : PySem.W.Frag} {C : Addr} {f : Str} (h : propB K C f = true) : PropOf K C f (ma K C f) (getterOf K C f) := by
  obtain ⟨h1, h⟩ := ba h
  obtain ⟨h2, h⟩ := ba h
  obtain ⟨h3, h4⟩ := ba h
  refine ⟨eqO_ok h1, eqO_ok h2, of_decide_eq_true h3, ?_⟩
  unfold getterOf
  split at h4
  · rename_i g rest e
    rw [e]
    exact ⟨rest, rfl⟩
  · cases h4
/-! exceptions -/
def excB (K : PySem.W.Frag) (D : Addr) : Bool := eqO (PySem.W.findIn K (.ref D) "__getattribute__") (some (some (.builtin "BaseException.__getattribute__"))) && (eqO (PySem.W.findIn K (.ref D) "__getattr__") (some none) && (decide (PySem.W.subIn K (.ref D) (.type "BaseException") = some true) && (PySem.W.hasDictIn K D &&
  (eqO (PySem.W.findIn K (.ref D) "__class__") (some (some (.builtin "object.__class__"))) && (eqO (PySem.W.specialIn K (.builtin "object.__class__") "__get__") (some (some (.builtin "getset_descriptor.__get__"))) && (decide (PySem.W.takesIn K (.builtin "object.__class__") = some true) && decide (PySem.W.mroIn K D (.type "object") = some true)))))))
theorem excB_ok {K : PySem.W.Frag} {D : Addr} (h : excB K D = true) : L2.ExcC K D := by
  obtain ⟨h1, h⟩ := ba h
  obtain ⟨h2, h⟩ := ba h
  obtain ⟨h3, h⟩ := ba h
  obtain ⟨h4, h⟩ := ba h
  obtain ⟨h5, h⟩ := ba h
  obtain ⟨h6, h⟩ := ba h
  obtain ⟨h7, h8⟩ := ba h
  exact ⟨eqO_ok h1, eqO_ok h2, of_decide_eq_true h3, h4, eqO_ok h5, eqO_ok h6, of_decide_eq_true h7, of_decide_eq_true h8⟩
end Hy
set_option Elab.async false
set_option linter.all false
set_option maxRecDepth 100000
set_option maxHeartbeats 0
namespace K01
open PySem PySem.Spec PyProof.Rows L2 He Gd
def dF (x : Str) (st : Stmt) : Hy.DA := ⟨fun K => ga K x, x, x, defArgs st, defBody st, defScope st⟩
def dM (i : Nat) (m q : Str) : Hy.DA := ⟨fun K => ma K (ga K "Schema") m, m, q, defArgs (meth i), defBody (meth i), defScope (meth i)⟩
def dG (i : Nat) (m q : Str) : Hy.DA := ⟨fun K => Hy.getterOf K (ga K "Schema") m, m, q, defArgs (meth i), defBody (meth i), defScope (meth i)⟩
def fn : List Hy.DA := [dF "is_name" sIsName, dF "_is_column" sIsColumn, dF "_is_table" sIsTable, dF "_are_tables" sAreTables, dF "_changes" sChanges,
  dF "_law_pen" sPen, dF "_law_next" sNext, dF "_law_draw" sDraw, dF "_law_name" sName, dF "_law_names" sNames, dF "_law_plan" sPlan, dF "_law_is_name" sLIsName, dF "_law_is_table" sLIsTable, dF "_law_is_plan" sLIsPlan, dF "_law_odd" sOdd, dF "_law_bent" sBent, dF "_law_word" sWord, dF "_law_shows" sShows, dF "_law_refuses" sRefuses, dF "_law_equals" sEquals, dF "law" sLaw,
  dM 0 "__init__" "Schema.__init__", dM 1 "__eq__" "Schema.__eq__", dG 2 "tables" "Schema.tables", dG 3 "changes" "Schema.changes", dM 6 "check_table" "Schema.check_table", dM 7 "columns" "Schema.columns", dM 8 "flags" "Schema.flags", dM 12 "has_column" "Schema.has_column", dM 13 "check_column" "Schema.check_column", dM 15 "kind_of" "Schema.kind_of", dM 18 "places" "Schema.places"]
def gls : List Str := ["is_name", "_is_column", "_is_table", "_are_tables", "_changes", "Schema", "ApartError", "InvalidSchema", "UnknownTable", "UnknownColumn", "NO_NAMES", "_law_pen", "_law_next", "_law_draw", "_law_name", "_law_names", "_law_plan", "_law_is_name", "_law_is_table", "_law_is_plan", "_law_odd", "_law_bent", "_law_word", "_law_shows", "_law_refuses", "_law_equals", "law"]
def frs : List Str := ["isinstance", "len", "str", "all", "tuple", "dict", "list", "set", "sorted", "enumerate", "range", "int", "repr", "max"]
def ats : List Str := ["_tables", "_changes", "_sizes", "_kinds", "_column_at", "_flag_at"]
def mts : List Str := ["__eq__", "check_table", "columns", "flags", "has_column", "check_column", "kind_of", "places"]
def fa : List Fa := gls.map Fa.glo ++ (frs.map Fa.free ++ (ats.map (Fa.noat "Schema") ++ (mts.map (Fa.meth "Schema") ++ (errs.map Fa.exc ++ (errs.map (fun x => Fa.exm x "ApartError" true) ++
  [.int "MOST_LETTERS" 8, .int "MOST_COLUMNS" 3, .int "MOST_FLAGS" 2, .int "MOST_TABLES" 4, .cls "Schema", .mkr "Schema", .keep "Schema"])))))
def ciB (K : PySem.W.Frag) (C : Addr) : Bool := eqO (PySem.W.findIn K (.ref C) "__class__") (some (some (.builtin "object.__class__"))) && (eqO (PySem.W.specialIn K (.builtin "object.__class__") "__get__") (some (some (.builtin "getset_descriptor.__get__"))) && (decide (PySem.W.takesIn K (.builtin "object.__class__") = some true) && (decide (PySem.W.mroIn K C (.type "object") = some true) &&
  (tysD.all fun t => decide (PySem.W.kitOne K (.type t) (.ref C) = some false)))))
def exK (K : PySem.W.Frag) : Bool := Gd.sysB K && (tupB K "NO_NAMES" (noNames.map He.Dv.str) && ((errs.all fun x => errs.all fun y => decide (PySem.W.kitOne K (.ref (ga K x)) (.ref (ga K y)) = some (decide (x = y)))) && ((errs.all fun x => Hy.excB K (ga K x)) &&
  (ciB K (ga K "Schema") && ((Hy.propB K (ga K "Schema") "tables" && Hy.propB K (ga K "Schema") "changes") && (eqO (PySem.W.findIn K (.ref (ga K "Schema")) "__ne__") (some (some (.builtin "object.__ne__"))) && decide (Hy.pOf K "_law_refuses" ≠ Hy.pOf K "law")))))))
def ts : List Str := ["_law_refuses", "law"]
abbrev R : PySem.W.OpenRow := PySem.W.OpenLaw.row PySem.Challenge.rw_rulesmerged_k01_names_and_schemas
abbrev hk : PySem.W.Hook := Hy.hookY 6 fa fn exK ts
def ob (s : PySem.W.SharedT) : Hy.AlY := Hy.obsYG 6 fa fn exK ts (HandSHeadRun.getT s)
theorem ob_eq (s : PySem.W.SharedT) : ob s = hk.obs s.abs := Hy.obsYG_eq (HandSHeadRun.getT_eq s)
def loose : List Str := ["_wall", "ApartError", "InvalidSchema", "UnknownColumn", "UnknownTable", "NO_NAMES", "MOST_LETTERS", "MOST_TABLES", "MOST_COLUMNS", "MOST_FLAGS", "is_name", "_is_column", "_is_table", "_are_tables", "_changes", "Schema", "_law_pen", "_law_next", "_law_draw", "_law_some", "_law_name", "_law_names", "_law_plan", "_law_is_name", "_law_is_table", "_law_is_plan", "_law_odd", "_law_bent", "_law_word", "_law_shows", "_law_refuses", "_law_equals"]
end K01
set_option Elab.async false
set_option linter.all false
set_option maxRecDepth 100000
set_option maxHeartbeats 0
namespace K01
open PySem PySem.Spec PyProof.Rows L2 He
theorem run (w : World) : HandSHeadRun.RunEq R (PySem.W.view R.prog [35]) hk ob 9000 loose w := by
  intro os
  kernel_rfl
end K01
set_option Elab.async false
set_option linter.all false
set_option maxRecDepth 100000
set_option maxHeartbeats 4000000
namespace K01
open PySem PySem.Spec PyProof.Rows L2 He Gd LamX
open Dl (spD)
section
variable {w : World} {K : PySem.W.Frag} {h : Heap} {mg : Str → Option Value}
abbrev PW01 : Program := PySem.Challenge.pw_rulesmerged_k01_names_and_schemas
abbrev C01 (K : PySem.W.Frag) : Addr := ga K "Schema"
theorem ci_of (cl : Cls K (C01 K)) (h : ciB K (C01 K) = true) : Dl.CiT K (C01 K) := by
  obtain ⟨h1, h⟩ := ba h
  obtain ⟨h2, h⟩ := ba h
  obtain ⟨h3, h⟩ := ba h
  obtain ⟨h4, h5⟩ := ba h
  exact ⟨cl, eqO_ok h1, eqO_ok h2, of_decide_eq_true h3, of_decide_eq_true h4, fun t ht => of_decide_eq_true (List.all_eq_true.mp h5 t ht)⟩
theorem no_of (c : tupB K "NO_NAMES" (noNames.map He.Dv.str) = true) (H : Hp) : SqT K H (ga K "NO_NAMES") (noNames.map V.str) := by
  have e := tupB_ok c H
  rw [List.map_map] at e
  exact e
theorem facts {f : Addr} (X : K.In h) (G : h.Ns mainGlobals mg) (hfa : mg ("law" : Str) = some (.ref f)) (c : Hy.SaysY fa fn exK ts K) (ht : ∀ x ∈ ts, h.get? (Hy.pOf K x) = some Gd.emptyT) :
    Gd.AtG PySem.Challenge.rw_rulesmerged_k01_names_and_schemas w K 9 63 "script" mg f h := by
  have glo : ∀ x : Str, x ∈ gls → mg x = some (.ref (ga K x)) := fun x hx => glo_ok X G (c.fact (f := .glo x) (List.mem_append_left _ (List.mem_map_of_mem hx)))
  have free : ∀ x : Str, x ∈ frs → mg x = none := fun x hx => free_ok X G (c.fact (f := .free x) (List.mem_append_right _ (List.mem_append_left _ (List.mem_map_of_mem hx))))
  have noat : ∀ x : Str, x ∈ ats → NoAttr K (C01 K) x := fun x hx => noat_ok (c.fact (f := .noat "Schema" x) (List.mem_append_right _ (List.mem_append_right _ (List.mem_append_left _ (List.mem_map_of_mem hx)))))
  have meth : ∀ x : Str, x ∈ mts → Meth K (C01 K) x (ma K (C01 K) x) := fun x hx => meth_ok (c.fact (f := .meth "Schema" x) (List.mem_append_right _ (List.mem_append_right _ (List.mem_append_right _ (List.mem_append_left _ (List.mem_map_of_mem hx))))))
  have exc : ∀ x : Str, x ∈ errs → _ := fun x hx => exc_ok (c.fact (f := .exc x) (List.mem_append_right _ (List.mem_append_right _ (List.mem_append_right _ (List.mem_append_right _ (List.mem_append_left _ (List.mem_map_of_mem hx)))))))
  have exm : ∀ x : Str, x ∈ errs → _ := fun x hx => exm_ok (c.fact (f := .exm x "ApartError" true) (List.mem_append_right _ (List.mem_append_right _ (List.mem_append_right _ (List.mem_append_right _ (List.mem_append_right _ (List.mem_append_left _ (List.mem_map_of_mem hx))))))))
  have last : ∀ f : Fa, f ∈ ([.int "MOST_LETTERS" 8, .int "MOST_COLUMNS" 3, .int "MOST_FLAGS" 2, .int "MOST_TABLES" 4, .cls "Schema", .mkr "Schema", .keep "Schema"] : List Fa) → f.ok K = true := fun f hf => c.fact (List.mem_append_right _ (List.mem_append_right _ (List.mem_append_right _ (List.mem_append_right _ (List.mem_append_right _ (List.mem_append_right _ hf))))))
  have i8 := int_ok X G (last (.int "MOST_LETTERS" 8) (by simp))
  have i3 := int_ok X G (last (.int "MOST_COLUMNS" 3) (by simp))
  have i2 := int_ok X G (last (.int "MOST_FLAGS" 2) (by simp))
  have i4 := int_ok X G (last (.int "MOST_TABLES" 4) (by simp))
  have cl : Cls K (C01 K) := cls_ok (last (.cls "Schema") (by simp))
  have mk : Mk K (C01 K) (ma K (C01 K) "__init__") := mkr_ok (last (.mkr "Schema") (by simp))
  have kC : PySem.W.keepIn K (.ref (C01 K)) = true := keep_ok (last (.keep "Schema") (by simp))
  obtain ⟨x0, xs⟩ := ba c.x
  obtain ⟨x1, xs⟩ := ba xs
  obtain ⟨x2, xs⟩ := ba xs
  obtain ⟨x3, xs⟩ := ba xs
  obtain ⟨x4, xs⟩ := ba xs
  obtain ⟨x5, xs⟩ := ba xs
  obtain ⟨x6, x7⟩ := ba xs
  obtain ⟨x5a, x5b⟩ := ba x5
  have hS : SysD K := sysB_ok x0
  have ne12 : Hy.pOf K "_law_refuses" ≠ Hy.pOf K "law" := of_decide_eq_true x7
  obtain ⟨cR, hR, nR⟩ := Hy.codeB_ok (c.code (x := "_law_refuses") (by simp [ts]))
  obtain ⟨cL, hL, nL⟩ := Hy.codeB_ok (c.code (x := "law") (by simp [ts]))
  have e := hfa.symm.trans (glo "law" (by decide +kernel))
  cases e
  obtain ⟨d0, F0⟩ := c.def_ 0 rfl
  obtain ⟨d1, F1⟩ := c.def_ 1 rfl
  obtain ⟨d2, F2⟩ := c.def_ 2 rfl
  obtain ⟨d3, F3⟩ := c.def_ 3 rfl
  obtain ⟨d4, F4⟩ := c.def_ 4 rfl
  obtain ⟨d5, F5⟩ := c.def_ 5 rfl
  obtain ⟨d6, F6⟩ := c.def_ 6 rfl
  obtain ⟨d7, F7⟩ := c.def_ 7 rfl
  obtain ⟨d8, F8⟩ := c.def_ 8 rfl
  obtain ⟨d9, F9⟩ := c.def_ 9 rfl
  obtain ⟨d10, F10⟩ := c.def_ 10 rfl
  obtain ⟨d11, F11⟩ := c.def_ 11 rfl
  obtain ⟨d12, F12⟩ := c.def_ 12 rfl
  obtain ⟨d13, F13⟩ := c.def_ 13 rfl
  obtain ⟨d14, F14⟩ := c.def_ 14 rfl
  obtain ⟨d15, F15⟩ := c.def_ 15 rfl
  obtain ⟨d16, F16⟩ := c.def_ 16 rfl
  obtain ⟨d17, F17⟩ := c.def_ 17 rfl
  obtain ⟨d18, F18⟩ := c.def_ 18 rfl
  obtain ⟨d19, F19⟩ := c.def_ 19 rfl
  obtain ⟨d20, F20⟩ := c.def_ 20 rfl
  obtain ⟨d21, F21⟩ := c.def_ 21 rfl
  obtain ⟨d22, F22⟩ := c.def_ 22 rfl
  obtain ⟨d23, F23⟩ := c.def_ 23 rfl
  obtain ⟨d24, F24⟩ := c.def_ 24 rfl
  obtain ⟨d25, F25⟩ := c.def_ 25 rfl
  obtain ⟨d26, F26⟩ := c.def_ 26 rfl
  obtain ⟨d27, F27⟩ := c.def_ 27 rfl
  obtain ⟨d28, F28⟩ := c.def_ 28 rfl
  obtain ⟨d29, F29⟩ := c.def_ 29 rfl
  obtain ⟨d30, F30⟩ := c.def_ 30 rfl
  obtain ⟨d31, F31⟩ := c.def_ 31 rfl
  -- what the defs ask of the module's names
  have N0 : NmT K mg := ⟨free _ (by decide +kernel), free _ (by decide +kernel), free _ (by decide +kernel), free _ (by decide +kernel), i8, _, glo _ (by decide +kernel), no_of x1 _⟩
  have T0 : TbT K mg (ga K "is_name") (ga K "_is_column") (ga K "_is_table") := ⟨N0, free _ (by decide +kernel), free _ (by decide +kernel), free _ (by decide +kernel), free _ (by decide +kernel), glo _ (by decide +kernel), glo _ (by decide +kernel), glo _ (by decide +kernel), i3, i2, i4⟩
  have Z : InT K mg (ga K "_are_tables") (ga K "_changes") (ga K "is_name") (ga K "_is_column") (ga K "_is_table") d3 d4 d0 d1 d2 := ⟨T0, F0, F1, F2, F3, F4, glo _ (by decide +kernel), glo _ (by decide +kernel), free _ (by decide +kernel), free _ (by decide +kernel), free _ (by decide +kernel)⟩
  have T1 : ScT K (C01 K) := ⟨cl, noat⟩
  have er : ∀ x : Str, x ∈ errs → x ∈ gls → ErT K mg x := fun x h1 h2 => ⟨glo x h2, (exc x h1).1, (exc x h1).2.1, (exc x h1).2.2.1, (exc x h1).2.2.2⟩
  have eS : ErT K mg "InvalidSchema" := er _ (by decide +kernel) (by decide +kernel)
  have eT : ErT K mg "UnknownTable" := er _ (by decide +kernel) (by decide +kernel)
  have eC : ErT K mg "UnknownColumn" := er _ (by decide +kernel) (by decide +kernel)
  have M0 : McT K mg := ⟨free _ (by decide +kernel), free _ (by decide +kernel)⟩
  have S0 : SmT K (C01 K) (ma K (C01 K) "check_table") d25 := ⟨F25, meth _ (by decide +kernel)⟩
  have S1 : SnT K (C01 K) (ma K (C01 K) "check_table") (ma K (C01 K) "has_column") (ma K (C01 K) "check_column") d25 d28 d29 := ⟨S0, F28, meth _ (by decide +kernel), F29, meth _ (by decide +kernel)⟩
  have CI : Dl.CiT K (C01 K) := ci_of cl x4
  have PT : PenT mg (ga K "_law_next") := ⟨glo _ (by decide +kernel), free _ (by decide +kernel), free _ (by decide +kernel), free _ (by decide +kernel)⟩
  have DT : DrT mg (ga K "_law_next") (ga K "_law_draw") := ⟨PT, glo _ (by decide +kernel), free _ (by decide +kernel)⟩
  have LN : LnT K mg (ga K "_law_next") (ga K "_law_draw") (ga K "_law_name") d6 d7 d8 := ⟨DT, F6, F7, F8, glo _ (by decide +kernel)⟩
  have LP : LpT K mg (ga K "_law_next") (ga K "_law_draw") (ga K "_law_name") (ga K "_law_names") d6 d7 d8 d9 := ⟨LN, F9, glo _ (by decide +kernel), free _ (by decide +kernel)⟩
  have LI : LiT mg := ⟨free _ (by decide +kernel), free _ (by decide +kernel), free _ (by decide +kernel), free _ (by decide +kernel), free _ (by decide +kernel)⟩
  have LT : LtT mg := ⟨LI, free _ (by decide +kernel), free _ (by decide +kernel), free _ (by decide +kernel), free _ (by decide +kernel)⟩
  have LB : LbT mg := ⟨LT, free _ (by decide +kernel)⟩
  have BN : Dl.Bn mg := ⟨free _ (by decide +kernel), free _ (by decide +kernel), free _ (by decide +kernel), free _ (by decide +kernel), free _ (by decide +kernel), free _ (by decide +kernel), free _ (by decide +kernel), free _ (by decide +kernel), free _ (by decide +kernel), free _ (by decide +kernel), free _ (by decide +kernel)⟩
  have WD : WdT K mg := ⟨glo _ (by decide +kernel), fun x hx => glo x ((by decide +kernel : ∀ x ∈ errs, x ∈ gls) x hx), exm, fun x hx y hy => of_decide_eq_true (List.all_eq_true.mp (List.all_eq_true.mp x2 x hx) y hy), fun x hx => Hy.excB_ok (List.all_eq_true.mp x3 x hx), free _ (by decide +kernel)⟩
  have WT : WrT K mg (ga K "_law_word") d16 := ⟨WD, F16, glo _ (by decide +kernel)⟩
  -- one parameter, two, three
  have b1 : ∀ {x q : Str} {p : Str} {ps : Arguments} {body : List Stmt} {sc : Scope} {f : Addr} {fd : FuncData}, FunD K x q ps body sc [] [] f fd → (∀ (kV doc pm : Value) (an : Option Addr) (cdv ct v : Value), bindArgs (PySem.W.fnOf x q ps body sc .none kV doc pm an cdv ct) ⟨[v], []⟩ = pure [(p, v)]) → Binds K fd [p] [] := fun F k => F.bindsN fun kV doc pm an cdv ct us hl => match us, hl with | [v], _ => k kV doc pm an cdv ct v
  have b2 : ∀ {x q : Str} {p p' : Str} {ps : Arguments} {body : List Stmt} {sc : Scope} {f : Addr} {fd : FuncData}, FunD K x q ps body sc [] [] f fd → (∀ (kV doc pm : Value) (an : Option Addr) (cdv ct v v' : Value), bindArgs (PySem.W.fnOf x q ps body sc .none kV doc pm an cdv ct) ⟨[v, v'], []⟩ = pure [(p, v), (p', v')]) → Binds K fd [p, p'] [] := fun F k => F.bindsN fun kV doc pm an cdv ct us hl => match us, hl with | [v, v'], _ => k kV doc pm an cdv ct v v'
  have b3 : ∀ {x q : Str} {p p' p'' : Str} {ps : Arguments} {body : List Stmt} {sc : Scope} {f : Addr} {fd : FuncData}, FunD K x q ps body sc [] [] f fd → (∀ (kV doc pm : Value) (an : Option Addr) (cdv ct v v' v'' : Value), bindArgs (PySem.W.fnOf x q ps body sc .none kV doc pm an cdv ct) ⟨[v, v', v''], []⟩ = pure [(p, v), (p', v'), (p'', v'')]) → Binds K fd [p, p', p''] [] := fun F k => F.bindsN fun kV doc pm an cdv ct us hl => match us, hl with | [v, v', v''], _ => k kV doc pm an cdv ct v v' v''
  have bL := FunD.bindsA (ps := ["script"]) F20 fun _ _ _ _ _ _ us hl => match us, hl with | [_], _ => rfl
  have tabs : ∀ x ∈ ts, h.get? (Hy.pOf K x) = some Gd.emptyT := ht
  refine ⟨d20, [(Hy.cOf K "_law_refuses", Hy.pOf K "_law_refuses"), (Hy.cOf K "law", Hy.pOf K "law")], spLaw K [(Hy.pOf K "_law_refuses", qR), (Hy.pOf K "law", qL)], ⟨fun p hp => ?_, fun s v => bL s [v] rfl⟩, fun H a ns hl hH hSq => ⟨a, ns, rfl, hSq, fun p hp => ?_, fun H' => rfl⟩, fun base KB GB TB => ?_⟩
  · simp only [List.mem_cons, List.not_mem_nil, or_false] at hp
    rcases hp with rfl | rfl
    · exact ⟨tabs _ (by simp [ts]), nR, hR _ X⟩
    · exact ⟨tabs _ (by simp [ts]), nL, hL _ X⟩
  · simp only [List.mem_cons, List.not_mem_nil, or_false] at hp
    rcases hp with rfl | rfl
    · exact hH (Hy.cOf K "_law_refuses", Hy.pOf K "_law_refuses") (by simp)
    · exact hH (Hy.cOf K "law", Hy.pOf K "law") (by simp)
  · have U : SchU PW01 w K mg base (C01 K) := {
      sc := T1
      tables := ⟨_, _, d23, Hy.propB_ok x5a, ok_tables T1 (free _ (by decide +kernel)) F23, b1 F23 fun _ _ _ _ _ _ _ => rfl⟩
      changes := ⟨_, _, d24, Hy.propB_ok x5b, ok_changesP T1 (free _ (by decide +kernel)) F24, b1 F24 fun _ _ _ _ _ _ _ => rfl⟩
      columns := ⟨_, d26, meth _ (by decide +kernel), ok_columns T1 M0 eT S0 F26, b2 F26 fun _ _ _ _ _ _ _ _ => rfl⟩
      flags := ⟨_, d27, meth _ (by decide +kernel), ok_flags T1 M0 eT S0 F27, b2 F27 fun _ _ _ _ _ _ _ _ => rfl⟩
      kindOf := ⟨_, d30, meth _ (by decide +kernel), ok_kindOf T1 M0 eT eC S1 F30, b3 F30 fun _ _ _ _ _ _ _ _ _ => rfl⟩
      places := ⟨_, d31, meth _ (by decide +kernel), ok_places T1 hS (free _ (by decide +kernel)) F31, b2 F31 fun _ _ _ _ _ _ _ _ => rfl⟩ }
    have mE := meth "__eq__" (by decide +kernel)
    have MU : MkU PW01 w K mg base (C01 K) (ma K (C01 K) "__init__") d21 (ma K (C01 K) "__eq__") d22 := {
      g := glo _ (by decide +kernel)
      mkd := mk
      MF := ok_init T1 Z eS hS F21
      bM := b2 F21 fun _ _ _ _ _ _ _ _ => rfl
      GE := ok_eqS T1 CI M0 hS (glo _ (by decide +kernel)) kC F22
      bE := b2 F22 fun _ _ _ _ _ _ _ _ => rfl
      eq := mE.at_
      eqfn := mE.fn
      ne := eqO_ok x6
      mro := CI.hm }
    have tR : TabB base mg (Hy.cOf K "_law_refuses") (Hy.pOf K "_law_refuses") := TB (Hy.cOf K "_law_refuses", Hy.pOf K "_law_refuses") (List.mem_cons_self)
    have tL : TabB base mg (Hy.cOf K "law") (Hy.pOf K "law") := TB (Hy.cOf K "law", Hy.pOf K "law") (List.mem_cons_of_mem _ List.mem_cons_self)
    have kR : d18.code = .ref (Hy.cOf K "_law_refuses") := by
      obtain ⟨_, _, _, _, _, _, _, _, _, _, _, lk, _⟩ := F18.ex
      exact cR _ _ _ _ lk
    have kL : d20.code = .ref (Hy.cOf K "law") := by
      obtain ⟨_, _, _, _, _, _, _, _, _, _, _, lk, _⟩ := F20.ex
      exact cL _ _ _ _ lk
    have hD : Dl.HasF PW01 w K mg base CX0 2 "_law_draw" ["pen", "under"] spDraw := ⟨_, d7, glo _ (by decide +kernel), F7.kp, ok_draw PT F6 F7, b2 F7 fun _ _ _ _ _ _ _ _ => rfl⟩
    have hO : Dl.HasF PW01 w K mg base CX0 3 "_law_odd" ["pen"] (spD K 1 false [] spOdd) := ⟨_, d14, glo _ (by decide +kernel), F14.kp, ok_odd DT F6 F7 (free _ (by decide +kernel)) F14, b1 F14 fun _ _ _ _ _ _ _ => rfl⟩
    refine ok_law (C := C01 K) BN hS MU WT ?_ ?_ ?_ ?_ ?_ ?_ ?_ hO ?_ ?_ ?_ F20 tL ne12 kL
    · exact ⟨_, d5, glo _ (by decide +kernel), F5.kp, ok_pen PT F5, b1 F5 fun _ _ _ _ _ _ _ => rfl⟩
    · exact ⟨_, d10, glo _ (by decide +kernel), F10.kp, ok_plan LP F10, b1 F10 fun _ _ _ _ _ _ _ => rfl⟩
    · exact ⟨_, d17, glo _ (by decide +kernel), F17.kp, ok_shows BN hS U F17, b2 F17 fun _ _ _ _ _ _ _ _ => rfl⟩
    · exact ⟨_, d18, glo _ (by decide +kernel), F18.kp, ok_refuses BN hS U WT hO hD F18 tR ne12 kR, b3 F18 fun _ _ _ _ _ _ _ _ _ => rfl⟩
    · exact ⟨_, d19, glo _ (by decide +kernel), F19.kp, ok_equals BN hS MU hD F19, b3 F19 fun _ _ _ _ _ _ _ _ _ => rfl⟩
    · exact ⟨_, d15, glo _ (by decide +kernel), F15.kp, ok_bent DT LB hS F6 F7 F14 (glo _ (by decide +kernel)) F15, b2 F15 fun _ _ _ _ _ _ _ _ => rfl⟩
    · exact ⟨_, d13, glo _ (by decide +kernel), F13.kp, ok_lisplan LI F11 F12 (ok_listable LT F11 (glo _ (by decide +kernel)) F12) (glo _ (by decide +kernel)) (glo _ (by decide +kernel)) F13, b1 F13 fun _ _ _ _ _ _ _ => rfl⟩
    · exact ⟨_, d8, glo _ (by decide +kernel), F8.kp, ok_name DT F6 F7 F8, b1 F8 fun _ _ _ _ _ _ _ => rfl⟩
    · exact ⟨_, d0, glo _ (by decide +kernel), F0.kp, ok_isname N0 F0, b1 F0 fun _ _ _ _ _ _ _ => rfl⟩
    · exact ⟨_, d11, glo _ (by decide +kernel), F11.kp, ok_lisname LI F11, b1 F11 fun _ _ _ _ _ _ _ => rfl⟩
end
end K01
set_option Elab.async false
set_option linter.all false
set_option maxRecDepth 100000
set_option maxHeartbeats 4000000
open PySem PySem.W PySem.Calls PyProof.Rows
theorem PySem.Challenge.cw_rulesmerged_k01_names_and_schemas_holds : PySem.Challenge.rw_rulesmerged_k01_names_and_schemas.Holds := by
  w_on; o_law
  refine HandSHeadRun.head_any (r := OpenLaw.row PySem.Challenge.rw_rulesmerged_k01_names_and_schemas) (q := view (OpenLaw.row PySem.Challenge.rw_rulesmerged_k01_names_and_schemas).prog [35]) (H := K01.hk) (ob := K01.ob) (M := 9000) (loose := K01.loose) (d := HandSHeadRun.topDef (OpenLaw.row PySem.Challenge.rw_rulesmerged_k01_names_and_schemas).prog 35) (kwd := []) K01.ob_eq
    (by kernel_rfl) (fun s => by kernel_rfl) K01.run (by kernel_rfl) (by kernel_rfl) (by kernel_rfl) (by rfl) (by first | assumption | decide +kernel) (by decide +kernel) ⟨rfl, rfl, rfl, rfl, rfl, by decide +kernel⟩ ?hw ?hc
  case hw => w_witness2
  case hc =>
    refine Gd.walk_ofG (l := PySem.Challenge.rw_rulesmerged_k01_names_and_schemas) (n := 63) (k := 9) (x := "script") rfl (by decide) (by kernel_rfl) ⟨rfl, by decide, by decide⟩ ?F
    intro w mg fa h Y G hmg0
    obtain ⟨K, KX, c, ht⟩ := Y
    have hmg : mg ("law" : PySem.Str) = some (.ref fa) := by
      have e : (HandSHeadRun.topDef (OpenLaw.row PySem.Challenge.rw_rulesmerged_k01_names_and_schemas).prog 35).name = ("law" : PySem.Str) := by kernel_rfl
      rw [← e]
      exact hmg0
    exact ⟨K, KX, K01.facts (w := w) KX G hmg c ht⟩
#print axioms PySem.Challenge.cw_rulesmerged_k01_names_and_schemas_holds
