import PyProof.Rows.All
import Wide.All
import OpenK.AllK
import Wide.FinOn
import KE.KExcSuper
import HandS.ForMost
import HandS.Exc
import HandS.ExcValue
import HandS.ExcIs
import HandS.ExcInit
import HandS.IsInst
import HandS.MakeKw
import HandS.HeadWalk
import HandS.MakeKwOnly
import KE.KExcIs
import PyProof.ReprReads
import PyProof.ReprRoads
import HandS.Ends
import HandS.Wide
import PySem.Challenge.RW_playsalike_k01_sorts_and_names_judged
import HandS.Walk
import HandS.Text
import HandS.Iter
import HandS.WordsDict
import HandS.WordsExc
import HandS.ExcOwn
import HandS.TupLe
import HandS.Zip
import HandS.TupAny
import HandS.More
import HandS.List
import HandS.Lambda
import KE.KxIndex
import HandS.Base
import HandS.Call
import HandS.Words
import HandS.TupMul
import HandS.EndOwn
set_option Elab.async false
set_option linter.all false
set_option maxRecDepth 100000
set_option maxHeartbeats 4000000
namespace Er
open PySem PySem.W PySem.Calls PyProof.Rows PySem.Spec PySem.HandSPX

/-! an own error: def __init__(self, pn): super().__init__(msg); self.pn = pn -/
def eArgs (pn : Str) (p1 p2 : Pos) : Arguments :=
  { posonlyargs := [], args := [{ arg := "self", annotation := none, pos := p1 }, { arg := pn, annotation := none, pos := p2 }],
    vararg := none, kwonlyargs := [], kw_defaults := [], kwarg := none, defaults := [] }
def eBody (pn msg : Str) (k0 : Nat) (q0 q1 q2 q3 q4 q5 q6 q7 q8 q9 : Pos) : List Stmt :=
  [.Expr (.Call (.Attribute (.Call (.Name "super" q0) [] [] q1) "__init__" q2) [.Constant (.str msg) k0 q3] [] q4) q5,
   .Assign [.Attribute (.Name "self" q6) pn q7] (.Name pn q8) q9]
def eScope (pn : Str) : Scope :=
  { kind := .function, names := [(PySem.Str.ofString "self", .local), (pn, .local), (PySem.Str.ofString "__class__", .free), (PySem.Str.ofString "super", .globalImplicit)],
    isGenerator := false, isCoroutine := false, more := [] }
/-- a parameter's word that meets none of the other names -/
structure PnOk (pn : Str) : Prop where
  s : (pn == ("self" : Str)) = false
  c : (pn == ("__class__" : Str)) = false
  u : (pn == ("super" : Str)) = false
  d : (pn == ("__debug__" : Str)) = false
  bp : ∀ (qual : Str) (body : List Stmt) (sc : Scope) (cl : List (Str × Addr)) (kV doc pm : Value) (an : Option Addr) (cdv ct : Value) (p1 p2 : Pos) (x : Addr) (v : Value),
    bindArgs (fnX "__init__" qual (eArgs pn p1 p2) body sc cl .none kV doc pm an cdv ct) ⟨[.ref x, v], []⟩ = pure ([("self", .ref x), (pn, v)] : List (Str × Value))
  bk : ∀ (qual : Str) (body : List Stmt) (sc : Scope) (cl : List (Str × Addr)) (kV doc pm : Value) (an : Option Addr) (cdv ct : Value) (p1 p2 : Pos) (x : Addr) (v : Value),
    bindArgs (fnX "__init__" qual (eArgs pn p1 p2) body sc cl .none kV doc pm an cdv ct) ⟨[.ref x], [(pn, v)]⟩ = pure ([("self", .ref x), (pn, v)] : List (Str × Value))
/-- what the written part says of such an error's class at C, of its __init__ at fI -/
structure ErrTxt (prog : Program) (K : Frag) (mg : Str → Option Value) (C fI : Addr) (pn : Str) : Prop where
  oex : L2.OexC K C
  iC : findIn K (.ref C) "__init__" = some (some (.ref fI))
  tI : typeIn K (.ref fI) = some (.type "function")
  noN : findIn K (.ref C) pn = some none
  fn : ∃ (oc : Value) (od : Option Addr) (kV doc pm ct : Value) (an : Option Addr) (osl : Array (Option Value)) (cc cda : Addr) (qual msg : Str) (k0 : Nat) (p1 p2 q0 q1 q2 q3 q4 q5 q6 q7 q8 q9 : Pos)
      (cl ccl : Value) (cld cdd : Option Addr) (csl ccs : Array (Option Value)) (vs : Array Value) (file : Str) (tf : Tok),
    K.lookup fI = some ⟨oc, od, .func (fnX "__init__" qual (eArgs pn p1 p2) (eBody pn msg k0 q0 q1 q2 q3 q4 q5 q6 q7 q8 q9) (eScope pn) [("__class__", cc)] .none kV doc pm an (.ref cda) ct), osl⟩ ∧
    codeIn K (.ref cda) qual = true ∧ K.lookup cc = some ⟨cl, cld, .cell (some (.ref C)), csl⟩ ∧ K.lookup cda = some ⟨ccl, cdd, .fields vs, ccs⟩ ∧ vs[2]? = some (.str file tf) ∧ ((prog.main.file : Str) == file) = true ∧ (q2.endLine == q4.line) = true
  any : nsIn K cStatics "thirdparty.any" = some none
  sup : ks_superIn K C C "__init__" = some (some (.builtin "ValueError.__init__"))
  sub : mroIn K C (.ref C) = some true
  subV : subIn K (.ref C) (.type "ValueError") = some true
  mgS : mg "super" = none
  top : (prog.main.scope.names.lookup ("super" : Str)).isSome = false
  pn : PnOk pn
theorem pn_part : PnOk "part" := ⟨by decide +kernel, by decide +kernel, by decide +kernel, by decide +kernel, by intros; rfl, by intros; rfl⟩
theorem pn_at : PnOk "at" := ⟨by decide +kernel, by decide +kernel, by decide +kernel, by decide +kernel, by intros; rfl, by intros; rfl⟩
theorem pn_number : PnOk "number" := ⟨by decide +kernel, by decide +kernel, by decide +kernel, by decide +kernel, by intros; rfl, by intros; rfl⟩
theorem pn_why : PnOk "why" := ⟨by decide +kernel, by decide +kernel, by decide +kernel, by decide +kernel, by intros; rfl, by intros; rfl⟩
theorem pn_most : PnOk "most" := ⟨by decide +kernel, by decide +kernel, by decide +kernel, by decide +kernel, by intros; rfl, by intros; rfl⟩
section
variable {prog : Program} {w : World} {A : Around} {R : Result → Shared → Prop} {s : Shared} {K : Frag} {mg : Str → Option Value} {C fI : Addr} {pn : Str} {base : Heap}
/-- what __init__ leaves of a fresh error at x -/
structure InitEnd (h h' : Heap) (x C dx t1 : Addr) (pn : Str) (v : Value) : Prop where
  keep : ∀ b o, b ≠ x → h.get? b = some o → h'.get? b = some o
  obj : h'.get? x = some (excObj C t1 (some dx) .none)
  big : h.objs.size ≤ dx
  ne : dx ≠ x
  ns : h'.Ns1 dx (fun y => if y = pn then some v else none)
theorem err_init (T : ErrTxt prog K mg C fI pn) (Md : L2.Mod K mg base) (kb : ∀ b o, base.get? b = some o → s.heap.get? b = some o) {x t0 : Addr} {v : Value} {args : Args}
    (hx : s.heap.get? x = some (excObj C t0 none .none)) (hnx : K.lookup x = none) (hroom : A.depth < recursionLimit)
    (hbind : ∀ fd : FuncData, (∃ qual body sc cl kV doc pm an cdv ct p1 p2, fd = fnX "__init__" qual (eArgs pn p1 p2) body sc cl .none kV doc pm an cdv ct) → BindsTo s fd args [("self", .ref x), (pn, v)])
    (hq : ∀ h' tk dx t1, InitEnd s.heap h' x C dx t1 pn v → R (.ok (.ret .none)) { s with heap := h', toks := tk }) :
    codeAny (model prog w) A (.call (.ref fI) args) R s := by
  obtain ⟨oc, od, kV, doc, pm, ct, an, osl, cc, cda, qual, msg, k0, p1, p2, q0, q1, q2, q3, q4, q5, q6, q7, q8, q9, cl, ccl, cld, cdd, csl, ccs, vs, file, tf, ho, hcd, hcc, hco, hvs, hfile, hline⟩ := T.fn
  have X : K.In s.heap := Md.kin.keeps kb
  have lk1 : (eScope pn).names.lookup ("self" : Str) = some .local := by simp [eScope, List.lookup]
  have lk2 : (eScope pn).names.lookup pn = some .local := by simp [eScope, List.lookup, T.pn.s]
  have nc1 : (("__class__" : Str) == pn) = false := by have := T.pn.c; simp at this ⊢; exact fun e => this e.symm
  have nc2 : (("super" : Str) == pn) = false := by have := T.pn.u; simp at this ⊢; exact fun e => this e.symm
  have lk3 : (eScope pn).names.lookup ("__class__" : Str) = some .free := by
    simp only [eScope, List.lookup, nc1, show (("__class__" : Str) == PySem.Str.ofString "self") = false by decide +kernel, beq_self_eq_true]
  have lk4 : (eScope pn).names.lookup ("super" : Str) = some .globalImplicit := by
    simp only [eScope, List.lookup, nc2, show (("super" : Str) == PySem.Str.ofString "self") = false by decide +kernel, show (("super" : Str) == PySem.Str.ofString "__class__") = false by decide +kernel, beq_self_eq_true]
  have pl : ∀ u : Value, ([("self", Value.ref x), (pn, u)] : List (Str × Value)).reverse.lookup ("self" : Str) = some (.ref x) := fun u => by
    have e : (("self" : Str) == pn) = false := by have := T.pn.s; simp at this ⊢; exact fun e => this e.symm
    simp [List.lookup, e]
  have pv : ∀ u : Value, ([("self", Value.ref x), (pn, u)] : List (Str × Value)).reverse.lookup pn = some u := fun u => by
    simp [List.lookup]
  obtain ⟨mb, hmb, hmb2⟩ := Md.blt
  obtain ⟨nm, qq, N, bs, bm, sn, sub, ab, col, dd, c0, c1, c2, c3, c5, hC, hbm⟩ := T.oex.cls
  have hcl : clsIn K C = some { name := nm, bases := bs, mro := .ref C :: bm, ns := N, qualname := qq, hasDict := true, slotNames := sn, subclasses := sub, abstract := ab, collection := col, hasDel := false } := by unfold clsIn; rw [hC] <;> rfl
  refine ks_codeAny_call_defAt (binds := [("self", .ref x), (pn, v)]) (body := eBody pn msg k0 q0 q1 q2 q3 q4 q5 q6 q7 q8 q9) hroom (X _ _ ho) rfl (Md.nolimit.keeps kb) (codeRec_of X hcd) rfl (hbind _ ⟨_, _, _, _, _, _, _, _, _, _, _, _, rfl⟩) ?_ ?_ (fun h₁ hns k₁ => ?_) rfl rfl rfl
  · intro y hy
    simp only [eScope, List.mem_cons, List.not_mem_nil, or_false] at hy
    rcases hy with rfl | rfl | rfl | rfl <;> simp
  · intro y hy
    simp only [List.mem_cons, List.not_mem_nil, or_false] at hy
    rcases hy with rfl | rfl
    · exact lk1
    · exact lk2
  have hx₁ := k₁ _ _ hx
  have X₁ : K.In h₁ := X.keeps k₁
  have kb₁ : ∀ b o, base.get? b = some o → h₁.get? b = some o := fun b o e => k₁ b o (kb b o e)
  have he : ∀ env : Env, eval (.Call (.Attribute (.Call (.Name "super" q0) [] [] q1) "__init__" q2) [.Constant (.str msg) k0 q3] [] q4) env = (do
      let ov ← attributeBase (.Call (.Name "super" q0) [] [] q1) "__init__" env (eval (.Call (.Name "super" q0) [] [] q1) env)
      standAt q2.atName
      let (f, first) ← holding [ov] (getMethod ov "__init__" (L2.plainOf (.Call (.Name "super" q0) [] [] q1) env))
      callWith q4 f first (backTo q4 (starEach [.Constant (.str msg) k0 q3] env)) []) := fun env => by
    rw [arm_eval_Call]
    exact bind_congr fun ov => bind_congr fun _ => L2.mcall_line rfl hline
  refine ks_wpAt_execs_cons (ks_wpAt_Expr_any (ks_wpAt_MethodCall (ks_wpAt_super_base lk4 lk3 (by decide +kernel) rfl (X₁ _ _ ho) rfl rfl rfl (X₁ _ _ hco) rfl hvs hfile T.top ?_) (he _)))
  refine ks_loadName_global rfl lk4 (loadGlobal_builtin (Md.glob.keeps kb₁) T.mgS (hmb.keeps kb₁) ((hmb2 _ (by decide)).trans PyProof.Rows.Boot.«super») ⟨rfl, ?_⟩)
  refine wpAny_loadName_free rfl lk3 rfl ⟨_, X₁ _ _ hcc, rfl⟩ ?_
  refine wpAny_loadName_local rfl lk1 hns (pl v) ?_
  refine ks_wpAny_isType_cls (X₁ _ _ hC) rfl ⟨rfl, ?_⟩
  refine ks_wpAny_call_super (X₁ _ _ hC) rfl hx₁ rfl (fun c e => nomatch e) (looks_mroIn X₁ T.sub) (fun h₂ e₂ k₂ => ?_)
  have X₂ : K.In h₂ := X₁.keeps k₂
  have hx₂ := k₂ _ _ hx₁
  have I₂ : InstAt h₂ x (excObj C t0 none .none) C none := ⟨hx₂, rfl, rfl, trivial⟩
  have hsup : alongIn K "__init__" (((Value.ref C :: bm).dropWhile (· != .ref C)).drop 1) = some (some (.builtin "ValueError.__init__")) := by
    have e := T.sup
    unfold ks_superIn at e
    rw [hcl] at e
    exact e
  refine kxs_getMethod kxs_ValueError e₂ (looks_opaque X₂ T.any) (l₀ := .ref C :: bm) (fun A Q E s k q => wpAny_bind ((looks_clsIn X₂ hcl) A _ E s k (wpAny_pure q))) rfl X₂ hsup (I₂.type.andThen (looks_subIn X₂ T.subV)) (ks_ne X₂ I₂ hcl) (by decide +kernel) ?_
  have mw₃ : (h₂.push (kxs_mw "ValueError.__init__" x)).get? h₂.objs.size = some (kxs_mw "ValueError.__init__" x) := Heap.get?_push_at rfl rfl
  have k₃ : ∀ b o, h₂.get? b = some o → (h₂.push (kxs_mw "ValueError.__init__" x)).get? b = some o := fun b o e => Heap.get?_push_of_some _ e
  have hx₃ := k₃ _ _ hx₂
  have hC₃ := k₃ _ _ (X₂ _ _ hC)
  generalize h₂.push (kxs_mw "ValueError.__init__" x) = h₃ at mw₃ k₃ hx₃ hC₃ ⊢
  refine kxs_callWith (i := "ValueError.__init__") (x := x) (by rfl) (evalArgs_plain ?_)
  refine Calls.spliced_cons (Calls.Constant_str (k := k0) (pos := q3) (Calls.spliced_nil ⟨mw₃, ?_⟩))
  -- the bound __init__ is called: the args are laid anew
  refine wpAny_call (codeAny_of_tree ?_)
  show wpAny _ _ (callAny (.ref h₂.objs.size) _) _ _ _
  simp only [callAny]
  refine wpAny_bind (wpAny_load mw₃ ?_)
  simp only [kxs_mw, show (Value.type "method-wrapper" == Value.type "method" || Value.type "method-wrapper" == Value.type "builtin_function_or_method" || Value.type "method-wrapper" == Value.type "method-wrapper") = true by decide, if_true]
  refine KFB.if_so (by decide) ?_
  refine wpAny_bind (check_bound_init F.excBase_ValueError.toExcCallFacts hC₃ hx₃ rfl ?_)
  refine wpAny_bind (wpAny_pure (wpAny_pure ?_))
  refine ⟨plainId_quiet F.excBase_ValueError.init.plain _, codeAny_builtin F.excBase_ValueError.initEntry ?_⟩
  refine exc_init_tree (cls := .ref C) (t0 := t0) (dv := none) (c2 := .none) (c3 := .none) (b4 := .bool false) hx₃ (by show 1 ≤ sizeLine; rw [sizeLine_eq]; omega) (fun h₄ k₄ hx₄ _ => ?_)
  -- self.pn = pn
  have xL : s.heap.objs.size ≠ x := Nat.ne_of_gt (Heap.lt_size hx)
  have k₁₄ : ∀ b o, b ≠ x → h₁.get? b = some o → h₄.get? b = some o := fun b o hb e => k₄ b o hb (k₃ b o (k₂ b o e))
  have X₄ : K.In h₄ := fun b o e => k₁₄ b o (fun z => by rw [z, hnx] at e; cases e) (X₁ b o e)
  have hns₄ : h₄.Ns s.heap.objs.size (fun y => ([("self", Value.ref x), (pn, v)] : List (Str × Value)).reverse.lookup y) := by
    obtain ⟨oL, es, ep, hL, r⟩ := hns
    exact ⟨oL, es, ep, k₁₄ _ _ xL hL, r⟩
  show _root_.PySem.wpAt _ _ _ (execs [.Assign [.Attribute (.Name "self" q6) pn q7] (.Name pn q8) q9] _) _ _ _
  refine wpAt_of_wpAny (wpAny_execs_cons (plainObj_wpAny_Assign_Attribute ?_))
  refine wpAny_Name (wpAny_loadName_local rfl lk2 hns₄ (pv v) ?_) T.pn.d
  refine wpAny_Name (wpAny_loadName_local rfl lk1 hns₄ (pl v) ?_) (by decide)
  refine set_plain X₄ (ox := excObj C h₃.objs.size none .none) (od := none) ⟨hx₄, rfl, rfl, trivial⟩ T.oex.sa ?_
  refine exc_osa X₄ hx₄ hcl (show refsVE (.ref C :: bm) = true from hbm) rfl T.noN (fun h₅ tk₅ dx k₅ dn dne hx₅ hn₅ => ?_)
  show wpAny _ _ (execs _ _) _ _ _
  have hLt : s.heap.objs.size < h₄.objs.size := hns₄.lt
  exact wpAny_execs_nil (hq h₅ tk₅ dx h₃.objs.size ⟨fun b o hb e => k₅ b o hb (k₁₄ b o hb (k₁ b o e)), hx₅, Nat.le_of_lt (Nat.lt_of_lt_of_le hLt dn), dne, hn₅⟩)
end
end Er
namespace Er
open PySem PySem.W PySem.HandSPX
section
variable {M : Model} {A : Around} {E : Value → Shared → Prop} {h : Heap} {g : Array GenState} {d : Drawn} {t : Nat} {os : OsState}
variable {nm q : Str} {C N : Addr} {bs bm bmB : List Value} {hdct : Bool} {sn : List Str} {sub : List Value} {ab : Bool} {col : Option Bool} {dd : Option Addr} {k0 k1 k2 k3 k5 : Option Value} {B newId initId : String}
/-- a class of the program over a built-in error: its __new__ is asked with keywords too -/
theorem ask_new (FB : ExcBaseFacts B newId initId bmB) (same : ∀ X : String, bm.contains (.type X) = bmB.contains (.type X)) {rest : List Value} {kw : List (Str × Value)} {Q : Unit → Shared → Prop}
    (hC : h.get? C = some (excClassObj nm q C N bs bm hdct sn sub ab col dd k0 k1 k2 k3 k5 newId)) (go : Q () ⟨h, g, d, t, os⟩) :
    wpAny M A (checkBuiltinCall newId ⟨.ref C :: rest, kw⟩) Q E ⟨h, g, d, t, os⟩ := by
  have isB : (Value.ref C :: bm).contains (.type B) = true := by rw [List.contains_cons, same, FB.hasB, Bool.or_true]
  have star := FB.noStar
  simp only [checkBuiltinCall, FB.newKind, FB.newSplit, FB.newRow]
  repeat (first
    | refine wpAny_loadPart_at hC ?_
    | (refine wpAny_isSubtype_exc hC ?_; rw [isB])
    | refine wpAny_staticBase_exc hC ?_
    | refine wpAny_madeBy_exc hC ?_
    | simp only [bne_self_eq_false, Bool.false_eq_true, if_false]
    | wp_step)
  exact go
end
section
variable {prog : Program} {w : World} {A : Around} {E : Value → Shared → Prop} {R : Result → Shared → Prop} {h : Heap} {g : Array GenState} {d : Drawn} {t : Nat} {os : OsState}
variable {nm q : Str} {C N : Addr} {bs bm bmB : List Value} {hdct : Bool} {sn : List Str} {sub : List Value} {ab : Bool} {col : Option Bool} {dd : Option Addr} {k0 k1 k2 k3 k5 : Option Value} {B newId initId : String}
/-- what its __new__ makes: the tuple of what is handed in by position, and the object -/
theorem run_new (FB : ExcBaseFacts B newId initId bmB) (same : ∀ X : String, bm.contains (.type X) = bmB.contains (.type X)) {rest : List Value} {kw : List (Str × Value)}
    (hC : h.get? C = some (excClassObj nm q C N bs bm hdct sn sub ab col dd k0 k1 k2 k3 k5 newId)) (small : rest.length ≤ sizeLine)
    (go : R (.ok (.ret (.ref (h.objs.size + 1)))) ⟨(h.push (kdv_tup rest)).push (excO C h.objs.size), g, d, t, os⟩) :
    codeAny (model prog w) A (.builtin newId ⟨.ref C :: rest, kw⟩) R ⟨h, g, d, t, os⟩ := by
  have fin := FB.ends
  have isB : (Value.ref C :: bm).contains (.type B) = true := by rw [List.contains_cons, same, FB.hasB, Bool.or_true]
  have noA : (Value.ref C :: bm).contains (.type "AttributeError") = false := by rw [List.contains_cons, same, FB.noAttr]; rfl
  have noN : (Value.ref C :: bm).contains (.type "NameError") = false := by rw [List.contains_cons, same, FB.noName]; rfl
  refine codeAny_builtinAt FB.entry ?_
  unfold Builtin.«BaseException.__new__»
  refine wpAt_bind ?_
  refine wpAt_bind (wpAt_stack fun p below => wpAt_of_wpAny ?_)
  wp_walk
  refine wpAt_of_wpAny ?_
  rw [FB.owner]
  repeat (first
    | with_reducible refine wpAny_madeHere_exc FB.canon hC ?_
    | with_reducible refine wpAny_loadPart_at hC ?_
    | (with_reducible refine wpAny_isSubtype_exc hC ?_; first | rw [isB] | rw [noA] | rw [noN])
    | wp_step)
  show R _ _
  rw [Heap.size_push]
  exact go
/-- type.__call__ on such a class with an __init__ of its own -/
theorem run_type_call (FB : ExcBaseFacts B newId initId bmB) (same : ∀ X : String, bm.contains (.type X) = bmB.contains (.type X)) {rest : List Value} {kw : List (Str × Value)} {fI : Addr} {Q : Fin → Shared → Prop}
    (hC : h.get? C = some (excClassObj nm q C N bs bm hdct sn sub ab col dd k0 k1 k2 k3 k5 newId)) (hi : Looks (model prog w) h (typeLookup (.ref C) "__init__") (some (.ref fI)))
    (hb : ∀ self, Looks (model prog w) h (bindSpecial (.ref fI) self) (.ref fI, [self])) (small : rest.length ≤ sizeLine)
    (go : codeAny (model prog w) A (.call (.ref fI) ⟨.ref (h.objs.size + 1) :: rest, kw⟩)
      (fun r s' => match r with | .ok (.ret v) => v = .none ∧ Q (.done (.ret (.ref (h.objs.size + 1)))) s' | .ok _ => False | .error e => E e s')
      ⟨(h.push (kdv_tup rest)).push (excO C h.objs.size), g, d, t, os⟩) :
    wpAny (model prog w) A (Builtin.«type.__call__» ⟨.ref C :: rest, kw⟩) Q E ⟨h, g, d, t, os⟩ := by
  repeat (first
    | with_reducible refine wpAny_loadPart_at hC ?_
    | with_reducible refine wpAny_madeBy_exc hC ?_
    | wp_step)
  refine codeAny_call_builtin_code (Code.quiet_builtin _ FB.quiet) (ask_new FB same hC (run_new FB same hC small ?_))
  have up : ∀ b o, h.get? b = some o → ((h.push (kdv_tup rest)).push (excO C h.objs.size)).get? b = some o := fun b o e =>
    Heap.get?_push_of_some _ (Heap.get?_push_of_some _ e)
  have atC := up _ _ hC
  have atE : ((h.push (kdv_tup rest)).push (excO C h.objs.size)).get? (h.objs.size + 1) = some (excO C h.objs.size) := by heap_get
  have own : (Value.ref C :: bm).contains (.ref C) = true := by simp
  have hi₁ := hi.keeps up
  have hb₁ := (hb (.ref (h.objs.size + 1))).keeps up
  show wpAny _ _ _ _ _ _
  unfold isInstance
  repeat (first
    | with_reducible refine wpAny_loadPart_at atE ?_
    | (with_reducible refine wpAny_isSubtype_exc atC ?_; rw [own])
    | wp_step)
  show wpAny _ _ (typeLookup (.ref C) _) _ _ _
  refine hi₁.at (wpAny_holding (wpAny_bind (hb₁.at ?_)))
  refine wpAny_bind (wpAny_call (codeAny_mono go fun r s' z => ?_))
  rcases r with e | (v | _ | _ | _)
  · exact z
  · exact z.elim
  · exact z.elim
  · exact z.elim
  · obtain ⟨rfl, z⟩ := z
    first
      | exact wpAny_pure (wpAny_pure z)
      | (wp_walk; exact z)
/-- C(.., k = ..): the call of such a class -/
theorem run_call (FB : ExcBaseFacts B newId initId bmB) (same : ∀ X : String, bm.contains (.type X) = bmB.contains (.type X)) {rest : List Value} {kw : List (Str × Value)} {fI : Addr}
    (hC : h.get? C = some (excClassObj nm q C N bs bm hdct sn sub ab col dd k0 k1 k2 k3 k5 newId)) (hi : Looks (model prog w) h (typeLookup (.ref C) "__init__") (some (.ref fI)))
    (hb : ∀ self, Looks (model prog w) h (bindSpecial (.ref fI) self) (.ref fI, [self])) (small : rest.length ≤ sizeLine)
    (go : codeAny (model prog w) (A.under (.builtin "type.__call__" ⟨.ref C :: rest, kw⟩)) (.call (.ref fI) ⟨.ref (h.objs.size + 1) :: rest, kw⟩) (InitBack (h.objs.size + 1) R)
      ⟨(h.push (kdv_tup rest)).push (excO C h.objs.size), g, d, t, os⟩) :
    codeAny (model prog w) A (.call (.ref C) ⟨rest, kw⟩) R ⟨h, g, d, t, os⟩ := by
  have look := tc_lookup
  have bind := tc_bind (.ref C)
  have isT : (⟨h, g, d, t, os⟩ : Shared).TypeIs (.ref C) "type" := ⟨_, hC, rfl⟩
  refine codeAny_of_tree ?_
  show wpAny _ _ (callAny (.ref C) _) _ _ _
  repeat (any_goals (first
    | assumption
    | with_reducible refine wpAny_loadPart_at hC ?_
    | wp_step))
  refine ⟨rfl, ?_⟩
  refine codeAny_call_builtin_at (Code.quiet_builtin _ (by decide +kernel)) entry_typeCall (wpAny_check_type_call_sub hC (run_type_call FB same hC hi hb small ?_))
  refine codeAny_mono go fun r s' z => ?_
  rcases r with e | (v | _ | _ | _) <;> exact z
end
end Er
namespace Er
open PySem PySem.W PySem.Calls PyProof.Rows PySem.Spec PySem.HandSPX
/-- a made error -/
structure Made (h h' : Heap) (e C d t1 : Addr) (pn : Str) (v : Value) : Prop where
  keep : ∀ b o, h.get? b = some o → h'.get? b = some o
  new : h.objs.size ≤ e
  obj : h'.get? e = some (excObj C t1 (some d) .none)
  big : h.objs.size ≤ d
  ne : d ≠ e
  ns : h'.Ns1 d (fun y => if y = pn then some v else none)
section
variable {prog : Program} {w : World} {A : Around} {R : Result → Shared → Prop} {s : Shared} {K : Frag} {mg : Str → Option Value} {C fI : Addr} {pn : Str} {base : Heap}
theorem err_made (T : ErrTxt prog K mg C fI pn) (Md : L2.Mod K mg base) (kb : ∀ b o, base.get? b = some o → s.heap.get? b = some o) (hroom : A.depth + 1 < recursionLimit) {us : List Value} {kw : List (Str × Value)} {v : Value}
    (hargs : (us = [v] ∧ kw = []) ∨ (us = [] ∧ kw = [(pn, v)])) (hq : ∀ h' tk e d t1, Made s.heap h' e C d t1 pn v → R (.ok (.ret (.ref e))) { s with heap := h', toks := tk }) :
    codeAny (model prog w) A (.call (.ref C) ⟨us, kw⟩) R s := by
  obtain ⟨nm, q, N, bs, bm, sn, sub, ab, col, dd, k0, k1, k2, k3, k5, hC, hbm⟩ := T.oex.cls
  have X : K.In s.heap := Md.kin.keeps kb
  obtain ⟨hp, g, dr, tk, os⟩ := s
  have small : us.length ≤ sizeLine := by
    rw [sizeLine_eq]
    rcases hargs with ⟨rfl, _⟩ | ⟨rfl, _⟩
    · show 1 ≤ _; omega
    · show 0 ≤ _; omega
  have up : ∀ b o, hp.get? b = some o → ((hp.push (kdv_tup us)).push (HandSPX.excO C hp.objs.size)).get? b = some o := fun b o e => Heap.get?_push_of_some _ (Heap.get?_push_of_some _ e)
  have atE : ((hp.push (kdv_tup us)).push (HandSPX.excO C hp.objs.size)).get? (hp.objs.size + 1) = some (HandSPX.excO C hp.objs.size) := by heap_get
  have hnx : K.lookup (hp.objs.size + 1) = none := by
    cases e : K.lookup (hp.objs.size + 1) with
    | none => rfl
    | some o => exact absurd (Nat.lt_of_succ_lt (Heap.lt_size (show hp.get? (hp.objs.size + 1) = some o from X _ _ e))) (Nat.lt_irrefl _)
  refine run_call F.excBase_ValueError (fun Y => HandSPX.refsVE_contains Y bm hbm) (X _ _ hC) (looks_findIn X T.iC) (fun self => bind_fn X self T.tI) small ?_
  refine err_init (v := v) (s := ⟨(hp.push (kdv_tup us)).push (HandSPX.excO C hp.objs.size), g, dr, tk, os⟩) T Md (fun b o e => up b o (kb b o e)) atE hnx ?_ ?_ fun h' tk' dx t1 Z => ?_
  · rw [L2.make_depth]
    exact hroom
  · rintro fd ⟨qual, body, sc, cl, kV, doc, pm, an, cdv, ct, p1, p2, rfl⟩
    rcases hargs with ⟨rfl, rfl⟩ | ⟨rfl, rfl⟩
    · exact BindsTo.of_eq (T.pn.bp _ _ _ _ _ _ _ _ _ _ _ _ _ _)
    · exact BindsTo.of_eq (T.pn.bk _ _ _ _ _ _ _ _ _ _ _ _ _ _)
  · have z : hp.objs.size + 1 + 1 ≤ dx := by
      have q := Z.big
      simpa only [Heap.size_push] using q
    exact ⟨rfl, hq h' tk' (hp.objs.size + 1) dx t1 ⟨fun b o e => Z.keep b o (Nat.ne_of_lt (Nat.lt_succ_of_lt (Heap.lt_size e))) (up b o e), Nat.le_succ _, Z.obj, by show hp.objs.size ≤ dx; omega, Z.ne, Z.ns⟩⟩
end
end Er
namespace L2
open PySem PySem.Spec PyProof.Rows
section
variable {X : Cx} {C fI : Addr} {pn : Str}
theorem relO_one {f : Str} {v : V} {v' : Value} (r : RelV v v') (y : Str) : RelO (List.lookup y [(f, v)]) (if y = f then some v' else none) := by
  by_cases e : y = f
  · rw [if_pos e, e]
    have q : List.lookup f [(f, v)] = some v := by simp [List.lookup]
    rw [q]
    exact r
  · rw [if_neg e]
    have b : (y == f) = false := by simpa using e
    have q : List.lookup y [(f, v)] = none := by simp [List.lookup, b]
    rw [q]
    trivial
/-- an error of the class at C stands at a, its dict at d with the one field -/
structure ErrAt (H : Hp) (C a d : Addr) (pn : Str) (v : V) : Prop where
  ob : H a = some (exo a C (some d))
  dc : H d = some (.xd [(pn, v)])
/-- the invariant behind the making of one -/
theorem made_inv {pins : List (Addr × Obj)} {σ : St} {H : Hp} {hp h' : Heap} {g : Array GenState} {dr : Drawn} {tk tk' : Nat} {os : OsState} {e d t1 : Addr} {v : V} {u : Value} (I : Inv X pins σ H ⟨hp, g, dr, tk, os⟩) (rv : RelV v u)
    (M : Er.Made hp h' e C d t1 pn u) : Inv X pins σ (upd (upd H d (.xd [(pn, v)])) e (exo e C (some d))) ⟨h', g, dr, tk', os⟩ ∧ H e = none ∧ H d = none ∧ e ≠ d := by
  obtain ⟨G, g1, g2⟩ := restrict h' fun b => decide (b ≠ e)
  have gk : ∀ b, b ≠ e → G.get? b = h'.get? b := fun b hb => g1 b (decide_eq_true hb)
  have ge : G.get? e = none := g2 e (by simp)
  have old : ∀ b o, hp.get? b = some o → G.get? b = some o := fun b o q => (gk b (Nat.ne_of_lt (Nat.lt_of_lt_of_le (Heap.lt_size q) M.new))).trans (M.keep b o q)
  have ob : ObjOk X.prog X.w (upd H d (.xd [(pn, v)])) G d (.xd [(pn, v)]) := ⟨_, M.ns.at (fun o q => (gk d M.ne).trans q), fun f => relO_one rv f⟩
  have J : Inv X pins σ (upd H d (.xd [(pn, v)])) ⟨G, g, dr, tk', os⟩ := I.laid (t' := tk') old M.big ob
  have he : H e = none := I.hok.fresh M.new
  have hd : H d = none := I.hok.fresh M.big
  have he' : (upd H d (.xd [(pn, v)])) e = none := by rw [upd_ne (Ne.symm M.ne)]; exact he
  have up : ∀ b o, G.get? b = some o → h'.get? b = some o := fun b o q => by
    by_cases hb : b = e
    · rw [hb, ge] at q; cases q
    · rw [← gk b hb]; exact q
  exact ⟨J.laidN (t' := tk') up ge he' (exo_ok M.obj), he, hd, Ne.symm M.ne⟩
/-- C(e) | C(pn = e): an own error with one field -/
def tErr (C : Addr) (pn : Str) (te : TE) : TE := fun σ H Q => te σ H fun v H1 => ∀ a d, H1 a = none → H1 d = none → a ≠ d → Q (.ref a) (upd (upd H1 d (.xd [(pn, v)])) a (exo a C (some d)))
theorem run_err {pins : List (Addr × Obj)} {σ : St} {H : Hp} {s : Shared} {Q : VK} {v : V} {u : Value} {us : List Value} {kw : List (Str × Value)} {k : Nat} (T : Er.ErrTxt X.prog X.K X.mg C fI pn) (hr : Room k X.A) (I : Inv X pins σ H s) (rv : RelV v u)
    (hargs : (us = [u] ∧ kw = []) ∨ (us = [] ∧ kw = [(pn, u)])) (h : ∀ a d, H a = none → H d = none → a ≠ d → Q (.ref a) (upd (upd H d (.xd [(pn, v)])) a (exo a C (some d)))) :
    wpAny (model X.prog X.w) X.A (call (.ref C) us kw) (EP X pins σ Q) X.xe s := by
  obtain ⟨hp, g, dr, tk, os⟩ := s
  refine wpAny_call (Er.err_made T I.ok.mod I.bk (by have := hr.dp; omega) hargs fun h' tk' e d t1 M => ?_)
  obtain ⟨J, he, hd, ne⟩ := made_inv (tk' := tk') I rv M
  exact ⟨.ref e, _, J, rfl, h e d he hd ne⟩
theorem pe_err {x : Str} {e : Expr} {te : TE} {p pos : Pos} {k : Nat} (T : Er.ErrTxt X.prog X.K X.mg C fI pn) (hr : Room k X.A) (hg : Gl X x) (hm : X.mg x = some (.ref C)) (he : PE X e te)
    (hs : starEach [e] X.env = (false, eval e X.env) :: starEach [] X.env := by rfl) (hdb : (x == ("__debug__" : Str)) = false := by decide) :
    PE X (.Call (.Name x p) [e] [] pos) (tErr C pn te) := by
  refine ⟨fun pins s σ H Q I h => ?_⟩
  refine wpAny_Call_Name_kw (ld_glob I hg hm ?_ hdb)
  refine PySem.W.callWith_K (h₀ := X.base) I.ok.mod.kin T.oex.kC ?_ hs (by rfl)
  rw [hs]
  refine Calls.spliced_cons (thn (he.run pins s σ H _ I h) fun u s1 ⟨v, H1, I1, r1, q1⟩ => ?_)
  exact Calls.spliced_nil ⟨I1.kIn, run_err T hr I1 r1 (.inl ⟨rfl, rfl⟩) q1⟩
def tErrK (C : Addr) (pn : Str) (te : TE) : TE := fun σ H Q => tCons te tNil σ H fun vs H1 => ∃ v, vs = [v] ∧ ∀ a d, H1 a = none → H1 d = none → a ≠ d → Q (.ref a) (upd (upd H1 d (.xd [(pn, v)])) a (exo a C (some d)))
theorem pe_errK {x : Str} {e : Expr} {te : TE} {p pos kp : Pos} {k : Nat} (T : Er.ErrTxt X.prog X.K X.mg C fI pn) (hr : Room k X.A) (hg : Gl X x) (hm : X.mg x = some (.ref C)) (he : PE X e te) (hdb : (x == ("__debug__" : Str)) = false := by decide) :
    PE X (.Call (.Name x p) [] [⟨some pn, e, kp⟩] pos) (tErrK C pn te) := by
  refine ⟨fun pins s σ H Q I h => ?_⟩
  refine wpAny_Call_Name_kw (ld_glob I hg hm ?_ hdb)
  refine PySem.W.callWith_KW0 (h₀ := X.base) I.ok.mod.kin T.oex.kC (by rfl) ?_ (by rfl)
  refine thn ((pk_cons he pk_nil).run pos pins s σ H _ I h) fun ws s2 ⟨zs, H2, I2, rz, v, ev, q2⟩ => ⟨I2.kIn, ?_⟩
  subst ev
  cases rz with
  | cons rv rn =>
    cases rn
    exact run_err T hr I2 rv (.inr ⟨rfl, rfl⟩) q2
end
end L2
namespace L2
open PySem PySem.Spec PyProof.Rows
/-- an error of the class at C stands at a: without, or with, a dict of its own -/
def IsErr (H : Hp) (a C : Addr) : Prop := H a = some (ExO (.ref C) a) ∨ ∃ (d : Addr) (pn : Str) (v : V), H a = some (exo a C (some d)) ∧ H d = some (.xd [(pn, v)])
section
variable {X : Cx} {pins : List (Addr × Obj)} {σ : St} {H : Hp} {s : Shared} {a C : Addr}
theorem IsErr.inst (I : Inv X pins σ H s) (e : IsErr H a C) : ∃ (ox : Obj) (od : Option Obj), PySem.W.InstAt s.heap a ox C od := by
  rcases e with e | ⟨d, pn, v, e, ed⟩
  · obtain ⟨⟨oe, vs, ho, ⟨hc, hd⟩, hv, _⟩, _, _⟩ := (show ObjOk X.prog X.w H s.heap a (ExO (.ref C) a) from I.hok a _ e)
    obtain ⟨oc, od, oda, osl⟩ := oe
    dsimp only at hc hd hv
    subst hc hd hv
    exact ⟨_, none, ho, rfl, rfl, trivial⟩
  · obtain ⟨t1, ho⟩ := exo_at I.hok e
    obtain ⟨mA, ⟨o, es, ep, h1, _⟩, _⟩ := (show ObjOk X.prog X.w H s.heap d (.xd [(pn, v)]) from I.hok d _ ed)
    exact ⟨_, some o, ho, rfl, rfl, h1⟩
/-- isinstance(e, c), e an error -/
def rIsV (K : PySem.W.Frag) : List V → Hp → VK → Prop := fun xs H Q => ∃ (a C : Addr) (c : V) (cv : Value) (b : Bool), xs = [.ref a, c] ∧ IsErr H a C ∧ ExcC K C ∧ (∀ u, RelV c u → u = cv) ∧ PySem.W.kitOne K (.ref C) cv = some b ∧ Q (.bl b) H
theorem call_isV : CallR X (.builtin "isinstance") (rIsV X.K) := by
  intro pins s σ H xs us Q I r h
  obtain ⟨a, C, c, cv, b, rfl, he, T, hcv, e, q⟩ := h
  cases r with
  | cons rx rr =>
    cases rr with
    | cons rt rr =>
      cases rr
      cases rx
      have ec := hcv _ rt
      subst ec
      obtain ⟨ox, od, J⟩ := he.inst I
      have isC : (PySem.W.clsIn X.K C).isSome = true := by
        have q := T.hd
        unfold PySem.W.hasDictIn at q
        cases z : PySem.W.clsIn X.K C with
        | none => rw [z] at q; cases q
        | some _ => rfl
      exact PySem.W.kia_one (PySem.W.kitx_exc (od := od) isC T.hg T.hk T.hs T.ha T.hn T.ht T.hm) I.kIn J e (fun z => nomatch z) fun tk => ⟨.bl b, H, I.kept (t' := tk) fun _ _ z => z, rfl, q⟩
/-- e.pn, e an error with that field -/
def tErrFld (K : PySem.W.Frag) (pn : Str) (te : TE) : TE := fun σ H Q => te σ H fun x H1 => ∃ (a C d : Addr) (v : V), x = .ref a ∧ H1 a = some (exo a C (some d)) ∧ H1 d = some (.xd [(pn, v)]) ∧ ExcC K C ∧ PySem.W.findIn K (.ref C) pn = some none ∧ Q v H1
theorem pe_errFld {e : Expr} {te : TE} {pn : Str} {pos : Pos} (he : PE X e te) (hb : attributeBase e pn X.env (eval e X.env) = eval e X.env := by rfl) : PE X (.Attribute e pn pos) (tErrFld X.K pn te) := by
  refine ⟨fun pins s σ H Q I h => ?_⟩
  refine attr_of hb (thn (he.run pins s σ H _ I h) fun u s1 hh => ?_)
  obtain ⟨x, H1, I1, rx, a, C, d, v, rfl, ea, ed, T, hno, q⟩ := hh
  obtain rfl : u = Value.ref a := rx
  obtain ⟨t1, ho⟩ := exo_at I1.hok ea
  obtain ⟨mA, hns, hr⟩ := (show ObjOk X.prog X.w H1 s1.heap d (.xd [(pn, v)]) from I1.hok d _ ed)
  obtain ⟨od, hod, hl⟩ := lookIn_ns hns
  have l : List.lookup pn [(pn, v)] = some v := by simp [List.lookup]
  obtain ⟨u, hu, ru⟩ := RelO.some_of (v := v) (o := mA pn) (by rw [← l]; exact hr pn)
  have J : PySem.W.InstAt s1.heap a ({ cls := .ref C, dict := some d, data := .fields #[.ref t1, .none, .none, .none, .bool false, .none] } : Obj) C (some od) := ⟨ho, rfl, rfl, hod⟩
  exact HandSPX.exc_get I1.kIn J T.hg T.hk T.hs (PySem.W.findObj_own T.hd hno rfl (by rw [hl, hu])) (handed_of ru) ⟨v, H1, I1.tok _, ru, q⟩
end
end L2
namespace L2
open PySem PySem.Spec PyProof.Rows
section
variable {X : Cx} {pins : List (Addr × Obj)} {σ : St} {H : Hp} {s : Shared}
/-- the value v is read as the datum d, and stands apart from sys.modules -/
def ReadsV (X : Cx) (H : Hp) (v : V) (d : PyData) : Prop := ∀ (pins : List (Addr × Obj)) (σ : St) (s : Shared) (u : Value), Inv X pins σ H s → RelV v u → ∃ as, Reads s.heap u d as ∧ sysModules ∉ as
/-- repr of a list, a tuple or a dict whose datum is known -/
def rRepr (X : Cx) : List V → Hp → VK → Prop := fun xs H Q => ∃ (a : Addr) (d : PyData), xs = [.ref a] ∧ ReadsV X H (.ref a) d ∧ d.showable = true ∧ d.depth ≤ 50 ∧ d.shown.length ≤ sizeLine ∧ Q (.str d.shown) H
theorem call_reprV (hg : X.A.guards = some []) (hu : X.A.units + 64 < cLine) : CallR X (.builtin "repr") (rRepr X) := by
  intro pins s σ H xs us Q I r h
  obtain ⟨a, d, rfl, hr, hs, hd, hz, q⟩ := h
  cases r with
  | cons rx rr =>
    cases rr
    obtain rfl := (show _ = Value.ref a from rx)
    obtain ⟨as, R, ns⟩ := hr pins σ s (.ref a) I rfl
    exact repr_of_reads' R hs (fun _ => ns) hg (by omega) (fun _ _ e => e) (fun h' u tk k => ⟨.str d.shown, H, I.kept (t' := tk) k, ⟨u, rfl⟩, q⟩) hz
/-- a list's display, with that it stands elsewhere than sys.modules -/
def tLstN (t : TA) : TE := fun σ H Q => t σ H fun xs H1 => xs.length ≤ sizeLine ∧ ∀ p, p ≠ sysModules → H1 p = none → Q (.ref p) (upd H1 p (.lst xs))
theorem pe_lstN {es : List Expr} {t : TA} {pos : Pos} (h : PA X es t) : PE X (.List es pos) (tLstN t) := by
  refine ⟨fun pins s σ H Q I hq => ?_⟩
  refine wpAny_List_spliced (thn (h.run pos pins s σ H _ I hq) fun us s1 ⟨xs, H1, I1, r, z, q⟩ => ⟨by rw [← r.length]; exact z, ?_⟩)
  have big : sysModules < s1.heap.objs.size := by
    obtain ⟨o, _, _, ho, _⟩ := I1.mod.glob
    exact Nat.lt_of_lt_of_le (Nat.lt_trans (by decide) (Heap.lt_size ho)) (Nat.le_trans I1.ok.bsz I1.sz)
  refine ⟨.ref s1.heap.objs.size, upd H1 s1.heap.objs.size (.lst xs), I1.laid (t' := s1.toks) (fun b u e => Heap.get?_push_of_some _ e) (Nat.le_refl _) ?_, rfl, q _ (Nat.ne_of_gt big) (I1.hok.fresh (Nat.le_refl _))⟩
  exact ⟨z, us, 0, r, Heap.get?_push_size _ rfl⟩
theorem ReadsV.non : ReadsV X H .non .none := fun _ _ _ u _ r => by
  obtain rfl := (show u = Value.none from r)
  exact ⟨[], .none, by simp⟩
theorem ReadsV.bl (b : Bool) : ReadsV X H (.bl b) (.bool b) := fun _ _ _ u _ r => by
  obtain rfl := (show u = Value.bool b from r)
  exact ⟨[], .bool b, by simp⟩
theorem ReadsV.int (i : Int) : ReadsV X H (.int i) (.int i) := fun _ _ _ u _ r => by
  obtain ⟨t, rfl⟩ := (show ∃ t, u = Value.int i t from r)
  exact ⟨[], .int i t, by simp⟩
theorem ReadsV.str (x : Str) : ReadsV X H (.str x) (.str x) := fun _ _ _ u _ r => by
  obtain ⟨t, rfl⟩ := (show ∃ t, u = Value.str x t from r)
  exact ⟨[], .str x t, by simp⟩
/-- a row of values and their data -/
def ReadsVs (X : Cx) (H : Hp) : List V → List PyData → Prop := Paired fun v d => ReadsV X H v d
theorem ReadsVs.all {vs : List V} {ds : List PyData} (r : ReadsVs X H vs ds) : ∀ {us : List Value}, Inv X pins σ H s → Vals vs us → ∃ as, ReadsAll s.heap us ds as ∧ sysModules ∉ as := by
  unfold ReadsVs at r
  induction r with
  | nil => intro us I q; cases q; exact ⟨[], .nil, by simp⟩
  | @cons v d vs ds h t ih =>
    intro us I q
    cases q with
    | @cons _ u _ us hu ht =>
      obtain ⟨as, r1, n1⟩ := h pins σ s u I hu
      obtain ⟨bs, r2, n2⟩ := ih I ht
      exact ⟨as ++ bs, .cons r1 r2, by simp [n1, n2]⟩
theorem ReadsV.lst {a : Addr} {vs : List V} {ds : List PyData} (na : a ≠ sysModules) (e : H a = some (.lst vs)) (r : ReadsVs X H vs ds) : ReadsV X H (.ref a) (.list ds) := fun pins σ s u I ru => by
  obtain rfl := (show u = Value.ref a from ru)
  obtain ⟨_, its, n, rv, h1⟩ := (show ObjOk X.prog X.w H s.heap a (.lst vs) from I.hok a _ e)
  obtain ⟨as, r1, n1⟩ := r.all I rv
  refine ⟨a :: as, .list h1 rfl rfl (by simpa using r1), ?_⟩
  simp [na.symm, n1]
theorem ReadsV.tup {a : Addr} {vs : List V} {ds : List PyData} (e : H a = some (.tup vs)) (r : ReadsVs X H vs ds) : ReadsV X H (.ref a) (.tuple ds) := fun pins σ s u I ru => by
  obtain rfl := (show u = Value.ref a from ru)
  obtain ⟨_, its, rv, o, h1, h2, n, h3⟩ := (show ObjOk X.prog X.w H s.heap a (.tup vs) from I.hok a _ e)
  obtain ⟨as, r1, n1⟩ := r.all I rv
  exact ⟨as, .tuple h1 h2 h3 (by simpa using r1), n1⟩
theorem ReadsV.dic0 {a : Addr} (e : H a = some (.dK [])) : ReadsV X H (.ref a) (.dict []) := fun pins σ s u I ru => by
  obtain rfl := (show u = Value.ref a from ru)
  obtain ⟨_, na, vs, rv, o, es, ep, h1, h2, h3, h4, h5, h6⟩ := (show ObjOk X.prog X.w H s.heap a (.dK []) from I.hok a _ e)
  cases rv
  generalize hes : es.toList = l at h5
  cases h5
  refine ⟨_, .dict h1 h2.1 h3 (by rw [hes]; exact .nil) (by rw [hes]; exact .nil), ?_⟩
  simp at na
  simp
  exact fun z => na z.symm
theorem ReadsV.dic1 {a : Addr} {x : Str} {v : V} {d : PyData} (e : H a = some (.dK [(.inr x, v)])) (r : ReadsV X H v d) : ReadsV X H (.ref a) (.dict [(.str x, d)]) := fun pins σ s u I ru => by
  obtain rfl := (show u = Value.ref a from ru)
  obtain ⟨_, na, vs, rv, o, es, ep, h1, h2, h3, h4, h5, h6⟩ := (show ObjOk X.prog X.w H s.heap a (.dK [(.inr x, v)]) from I.hok a _ e)
  cases rv with
  | @cons _ q _ qs hq ht =>
    cases ht
    obtain ⟨k, y⟩ := q
    obtain ⟨hk, hy⟩ := hq
    dsimp only at hk hy
    subst hk
    generalize hes : es.toList = l at h5
    cases h5 with
    | @cons en kv es' kvs' hkey hval hr =>
      cases hr
      rcases keyIs_shape (k := .inr x) (v := en.key) hkey with ⟨i, t, z, _⟩ | ⟨x', t, z, ek⟩
      · cases z
      · obtain rfl := Sum.inr.inj z
        obtain ⟨as, R, n⟩ := r pins σ s y I hy
        refine ⟨_, .dict (kvs := [(.str x, d)]) h1 h2.1 h3 (by rw [hes]; show ReadsAll _ [en.key] [.str x] _; rw [ek]; exact .cons (.str x t) .nil) (by rw [hes]; show ReadsAll _ [en.val] [d] _; rw [hval]; exact .cons R .nil), ?_⟩
        simp at na
        simp [n]
        exact fun z => na z.symm
end
end L2
namespace L2
open PySem PySem.Spec PyProof.Rows
section
variable {P : Program} {w : World} {K : PySem.W.Frag} {mg : Str → Option Value} {base : Heap}
/-- a def that runs where no repr is under way -/
structure FnOkG (P : Program) (w : World) (K : PySem.W.Frag) (mg : Str → Option Value) (base : Heap) (k : Nat) (f : Addr) (fd : FuncData) (ps : List Str) (sp : Sp) : Prop where
  run : ∀ (A : Around) (outer : List Env) (s : Shared) (H : Hp) (args : Args) (us : List Value) (vs : List V) (Q : VK) (E : XK), A.guards = some [] → Room k A →
    Env0 P w K mg base A outer s H → BindsTo s fd args (ps.zip us) → Vals vs us → sp vs H Q E → codeAny (model P w) A (.call (.ref f) args) (CR CX0 outer P w H s Q E) s
theorem Fun.okG {x qual : Str} {st : Stmt} {f : Addr} {fd : FuncData} {N ps : List Str} {k : Nat} {sp : Sp} (D : Fun K x qual st f fd) (S : FnScope N ps (defScope st)) (many : ∀ vs H Q E, sp vs H Q E → vs.length = ps.length)
    (body : ∀ (cdv : Value) (A : Around) (outer : List Env) (s : Shared) (H : Hp) (vs : List V) (Q : VK) (E : XK), A.guards = some [] → Room k (A.deeper (envOfC qual (defScope st) s.heap.objs.size f cdv)) → sp vs H Q E →
      ∃ t, PSs (cxOf CX0 P w K mg base N qual (defScope st) f cdv A outer s H E).nox (defBody st) t ∧ t { nx := fun _ H' => Q .non H', rt := Q } (start N vs) H) :
    FnOkG P w K mg base (k + 1) f fd ps sp := by
  obtain ⟨oc, od, kV, doc, pm, an, cdv, ct, osl, rfl, look, code⟩ := D.ex
  refine ⟨fun A outer s H args us vs Q E guards room env0 bind rel want => ?_⟩
  have lens := many _ _ _ _ want
  have inK : K.In s.heap := env0.mod.kin.keeps fun b o e => (env0.bs b o e).1
  have free : s.heap.NoLimit := env0.mod.nolimit.keeps fun b o e => (env0.bs b o e).1
  have kinds : ∀ y ∈ ps.zip us, (defScope st).names.lookup y.1 = some .local ∨
      ((defScope st).names.lookup y.1 = some .cell ∧ ((cellsFrom (s.heap.objs.size + 1) (defScope st).names []).lookup y.1).isSome = true) := by
    rintro ⟨n, v⟩ hy
    rcases S.par n (List.of_mem_zip hy).1 with q | q
    · exact Or.inl q
    · exact Or.inr ⟨q, PySem.W.cellsFrom_some _ _ _ (.inl q)⟩
  refine codeAny_call_function room.depth (inK _ _ look) rfl S.co S.gen rfl
    (PySem.W.codeRec_of inK code) (bind _ _ _ _ ?_)
  refine wpAny_newFunctionEnv_cells S.kind kinds fun env hEnv s1 inCall => ?_
  subst hEnv
  refine ⟨free.keeps inCall.toInCall.keep, codeAny_func ?_⟩
  obtain ⟨t, ht, hq⟩ := body cdv A outer s H vs Q E guards (room.deeper _) want
  have start0 := inv_start (CX := CX0) (P := P) (w := w) (mg := mg) (base := base) (E := E) S room.hd env0 lens rel inCall
  refine wpAny_mono (ht.nox.run [] s1 (start N vs) H _ start0 hq) (fun fl s' hs => ?_) fun e s' hs => hs
  cases fl with
  | ret u =>
    obtain ⟨v, σ', H', J, rv, q⟩ := hs
    exact ⟨v, H', J.os, J.bare, J.base, J.hok, rv, q⟩
  | next =>
    obtain ⟨σ', H', J, q⟩ := hs
    exact ⟨.non, H', J.os, J.bare, J.base, J.hok, rfl, q⟩
  | brk =>
    obtain ⟨_, _, _, q⟩ := hs
    exact q.elim
  | cont =>
    obtain ⟨_, _, _, q⟩ := hs
    exact q.elim
end
end L2
namespace L2
open PySem PySem.Spec PyProof.Rows
/-- the law's call at its entry, over an abstract heap in which the script alone may be tracked -/
theorem entry_run {P : Program} {w : World} {K : PySem.W.Frag} {mg mb : Str → Option Value} {k : Nat} {fa a : Addr} {fd : FuncData} {x : Str} {sp : Sp} {s₁ : Shared} {vs : List Value} {ns : List Int} (inK : K.In s₁.heap) (glob : s₁.heap.Ns mainGlobals mg)
    (blt : s₁.heap.Ns builtinsNs mb) (same : ∀ x : Str, x ≠ "__name__" → mb x = bootBuiltins x) (lim : s₁.heap.NoLimit) (noG : s₁.gens = #[]) (at_ : s₁.heap.get? a = some { cls := .type "list", data := .seq vs.toArray }) (areInts : IntsAre vs ns)
    (room : Room k callerA) (D : ∀ base : Heap, K.In base → base.Ns mainGlobals mg → FnOkG P w K mg base k fa fd [x] sp) (bind : ∀ (s : Shared) (u : Value), BindsTo s fd ⟨[u], []⟩ [(x, u)])
    (want : ∀ H : Hp, Only H → SqL K H a (ns.map V.int) → sp [.ref a] H (fun v _ => v = .bl true) fun _ _ _ => False)
    (H : Hp) (only : Only H) (seq : SqL K H a (ns.map V.int)) (ok : HOk P w H s₁.heap) (just : ∀ b, H b ≠ none → b = a) (out : H a ≠ none → K.lookup a = none) :
    codeAny (model P w) callerA (.call (.ref fa) ⟨[.ref a], []⟩) (fun r s' => r = .ok (.ret (.bool true)) ∧ OldK s₁.heap s'.heap ∧ s'.os = s₁.os ∧ AllBare s'.gens) s₁ := by
  have isA : ∀ {b : Addr} {u : HO}, H b = some u → b = a := fun {b u} q => just b (by rw [q]; exact fun z => nomatch z)
  have noDict : ∀ {b : Addr} {o : Obj} {es : Array DictEntry} {ep : Nat}, s₁.heap.get? b = some o → o.data = .dict es ep → H b = none := by
    intro b o es ep e d
    cases q : H b with
    | none => rfl
    | some u =>
      obtain rfl := isA q
      rw [at_] at e
      cases e
      exact absurd (show Data.seq vs.toArray _ = Data.dict es ep from d) (fun z => nomatch z)
  have ns' : ∀ {b : Addr} {m : Str → Option Value}, s₁.heap.Ns b m → (hidT s₁.heap H).Ns b m := by
    rintro b m ⟨o, es, ep, e, d, r⟩
    exact ⟨o, es, ep, hidT_get e (noDict e d), d, r⟩
  have inB : K.In (hidT s₁.heap H) := by
    intro b o e
    refine hidT_get (inK b o e) ?_
    cases q : H b with
    | none => rfl
    | some u =>
      obtain rfl := isA q
      rw [out (by rw [q]; exact fun z => nomatch z)] at e
      cases e
  obtain ⟨mc, l1, l2⟩ := lim
  have modB : Mod K mg (hidT s₁.heap H) := ⟨inB, ns' glob, ⟨mb, ns' blt, same⟩, ⟨mc, ns' l1, l2⟩⟩
  have noB : ∀ b : Addr, b ∉ frs ([] : List Env) := fun b z => by simp [frs] at z
  have env0 : Env0 P w K mg (hidT s₁.heap H) callerA [] s₁ H := ⟨rfl, modB, fun b o e => of_hidT e, Nat.le_of_eq (hidT_size _ _), trivial, fun b z => absurd z (noB b), ok, .of_eq noG⟩
  refine codeAny_mono ((D _ inB (ns' glob)).run callerA [] s₁ H ⟨[.ref a], []⟩ [.ref a] [.ref a] _ _ rfl room env0 (bind s₁ (.ref a)) (.cons rfl .nil) (want H only seq)) ?_
  intro r s' h
  cases r with
  | error e => exact False.elim h
  | ok fl =>
    cases fl with
    | next => exact False.elim h
    | brk => exact False.elim h
    | cont => exact False.elim h
    | ret u =>
      obtain ⟨v, H', os, bare, un, ok', rel, q⟩ := h
      obtain rfl := (show v = V.bl true from q)
      obtain rfl := (show u = Value.bool true from rel)
      refine ⟨rfl, OldK.of_keep fun b o e => ?_, os, bare⟩
      rcases only b with z | ⟨ob, xs, z⟩
      · exact un.keep b o e z (noB b) (by simp)
      · have e1 := (ok b _ z).1
        have e2 := (ok' b _ (un.frzs b ob _ z)).1
        rw [e] at e1
        cases e1
        exact e2
/-- the goal that k_head leaves, from a promise that is kept where no repr is under way -/
theorem walk_guard {l : PySem.W.OpenLaw} {n k : Nat} {q : Program} {loose : List Str} {XP : (Str → Option Value) → Heap → Prop} {YP : World → Heap → Prop} {d : DefRec} {K : Params → PySem.W.Frag} {sp : PySem.W.Frag → Sp} {x : Str}
    (most : l.most = some n) (small : n ≤ sizeLine) (noDf : d.params.defaults = []) (room : Room k callerA) (inK : ∀ (w : World) (h : Heap), YP w h → (K w.params).In h)
    (D : ∀ (w : World) (mg : Str → Option Value) (fa : Addr) (h : Heap), (K w.params).In h → h.Ns mainGlobals mg → mg d.name = some (.ref fa) →
      ∃ fd : FuncData, (∀ (s : Shared) (u : Value), BindsTo s fd ⟨[u], []⟩ [(x, u)]) ∧
        ∀ base : Heap, (K w.params).In base → base.Ns mainGlobals mg → FnOkG l.prog w (K w.params) mg base k fa fd [x] (sp (K w.params)))
    (want : ∀ (K : PySem.W.Frag) (H : Hp) (a : Addr) (ns : List Int), ns.length ≤ n → Only H → SqL K H a (ns.map V.int) → sp K [.ref a] H (fun v _ => v = .bl true) fun _ _ _ => False) :
    PySem.W.WalkO q loose XP YP l.row.toRowW d [] (fun f vs => PySem.call f vs) := by
  refine Att.attach_call most noDf fun w s₀ s₁ mg mb fa o pm cd doc a vs ns G Y ho hd hcd hmg hobj hints hlen hg => ?_
  have X := inK w _ Y
  obtain ⟨fd, bind, hD⟩ := D w mg fa _ X G.T.g hmg
  have leng := hints.length
  have le : ns.length ≤ sizeLine := Nat.le_trans hlen small
  have go := entry_run (P := l.prog) (w := w) X G.T.g G.T.b G.T.builtins G.T.nolimit hg hobj hints room hD bind (fun H h1 h2 => want _ H a ns hlen h1 h2)
  cases hk : (K w.params).lookup a with
  | some ob =>
    have e := X a ob hk
    rw [hobj] at e
    cases e
    refine go (fun _ => none) (fun _ => .inl rfl) (.inr ⟨_, vs.toArray, _, hk, rfl, rfl, rfl, by rw [List.size_toArray, leng]; exact le, by simpa using vals_ints hints⟩) ?_ (fun b z => absurd rfl z) fun z => absurd rfl z
    intro b u z
    cases (show (none : Option HO) = some u from z)
  | none =>
    refine go (fun b => if b = a then some (.frz { cls := .type "list", data := .seq vs.toArray } (.lst (ns.map V.int))) else none) (fun b => ?_) (.inl (.inr ⟨_, if_pos rfl⟩)) (fun b u z => ?_) (fun b z => ?_) fun _ => hk
    · by_cases hb : b = a
      · exact Or.inr ⟨_, _, if_pos hb⟩
      · exact Or.inl (if_neg hb)
    · by_cases hb : b = a
      · have z' := (if_pos hb).symm.trans z
        cases z'
        subst hb
        exact ⟨hobj, by rw [List.length_map]; exact le, vs, _, vals_ints hints, hobj⟩
      · cases (if_neg hb).symm.trans z
    · exact Classical.byContradiction fun hb => z (if_neg hb)
end L2
/-! An own error with one field (its class's `__init__` calls ValueError's), raised. -/
namespace L2
open PySem PySem.Spec PyProof.Rows
section
variable {X : Cx} {C fI : Addr} {pn : Str}
/-- what the making of such an error leaves, for raise -/
theorem made_mk {pins : List (Addr × Obj)} {σ : St} {H : Hp} {hp h' : Heap} {g : Array GenState} {dr : Drawn} {tk tk' : Nat} {os : OsState} {e d t1 : Addr} {v : V} {u : Value} {Q : XK} (T : Raises X (.ref C)) (I : Inv X pins σ H ⟨hp, g, dr, tk, os⟩) (rv : RelV v u)
    (M : Er.Made hp h' e C d t1 pn u) (q : Q (.ref C) (some d) (upd H d (.xd [(pn, v)]))) : MkP X pins σ Q (.ref e) ⟨h', g, dr, tk', os⟩ := by
  obtain ⟨G, g1, g2⟩ := restrict h' fun b => decide (b ≠ e)
  have gk : ∀ b, b ≠ e → G.get? b = h'.get? b := fun b hb => g1 b (decide_eq_true hb)
  have ge : G.get? e = none := g2 e (by simp)
  have old : ∀ b o, hp.get? b = some o → G.get? b = some o := fun b o z => (gk b (Nat.ne_of_lt (Nat.lt_of_lt_of_le (Heap.lt_size z) M.new))).trans (M.keep b o z)
  have ob : ObjOk X.prog X.w (upd H d (.xd [(pn, v)])) G d (.xd [(pn, v)]) := ⟨_, M.ns.at (fun o z => (gk d M.ne).trans z), fun f => relO_one rv f⟩
  have J : Inv X pins σ (upd H d (.xd [(pn, v)])) ⟨G, g, dr, tk', os⟩ := I.laid (t' := tk') old M.big ob
  refine ⟨e, _, _, ⟨G, g, dr, tk', os⟩, _, .ref C, some d, rfl, J, fun b o z => ?_, ge, M.obj, ⟨rfl, rfl⟩, rfl, rfl, ?_, rfl, I.bare, T, q⟩
  · by_cases hb : b = e
    · rw [hb, ge] at z
      cases z
    · exact (gk b hb).symm.trans z
  · rw [upd_ne (Ne.symm M.ne)]
    exact I.hok.fresh M.new
/-- raise C(e) -/
theorem pmk_err {x : Str} {e : Expr} {te : TE} {p pos : Pos} {k : Nat} (T : Er.ErrTxt X.prog X.K X.mg C fI pn) (hr : Room k X.A) (hg : Gl X x) (hm : X.mg x = some (.ref C)) (he : PE X e te)
    (hs : starEach [e] X.env = (false, eval e X.env) :: starEach [] X.env := by rfl) (hdb : (x == ("__debug__" : Str)) = false := by decide) :
    PMk X (.Call (.Name x p) [e] [] pos) (fun σ H Q => te σ H fun v H1 => ∀ d, H1 d = none → Q (.ref C) (some d) (upd H1 d (.xd [(pn, v)]))) := by
  intro pins s σ H Q I h
  refine wpAny_Call_Name_kw (ld_glob I hg hm ?_ hdb)
  refine PySem.W.callWith_K (h₀ := X.base) I.ok.mod.kin T.oex.kC ?_ hs (by rfl)
  rw [hs]
  refine Calls.spliced_cons (thn (he.run pins s σ H _ I h) fun u s1 ⟨v, H1, I1, r1, q1⟩ => ?_)
  refine Calls.spliced_nil ⟨I1.kIn, ?_⟩
  obtain ⟨hp, g, dr, tk, os⟩ := s1
  refine wpAny_call (Er.err_made T I1.ok.mod I1.bk (by have := hr.dp; omega) (.inl ⟨rfl, rfl⟩) fun h' tk' e d t1 M => ?_)
  exact made_mk (tk' := tk') (raises_own T.oex.exC T.oex.tyC) I1 r1 M (q1 d (I1.hok.fresh M.big))
end
end L2
namespace Dk
open PySem PySem.Spec PyProof.Rows L2
def top (i : Nat) : Stmt := PySem.Challenge.pw_playsalike_k01_sorts_and_names_judged.main.body.getD i (.Pass ⟨0, 0, 0, 0⟩)
abbrev sBegun : Stmt := top 51
abbrev sMixed : Stmt := top 52
abbrev sTake : Stmt := top 53
abbrev sPick : Stmt := top 54
theorem scBegun : FnScope ["script", "large", "grain"] ["script"] (defScope sBegun) := ⟨rfl, rfl, rfl, by decide +kernel, rfl, by decide +kernel, by decide +kernel⟩
theorem scMixed : FnScope ["draw", "turn", "found", "great", "blend", "grain"] ["draw"] (defScope sMixed) := ⟨rfl, rfl, rfl, by decide +kernel, rfl, by decide +kernel, by decide +kernel⟩
theorem scTake : FnScope ["draw", "amount", "found"] ["draw", "amount"] (defScope sTake) := ⟨rfl, rfl, rfl, by decide +kernel, rfl, by decide +kernel, by decide +kernel⟩
theorem scPick : FnScope ["draw", "some"] ["draw", "some"] (defScope sPick) := ⟨rfl, rfl, rfl, by decide +kernel, rfl, by decide +kernel, by decide +kernel⟩

/-! the drawing dict -/
def dkv (l c : Addr) (r t : Int) : List (Key × V) :=
  [(.inr "large", .ref l), (.inr "rest", .int r), (.inr "cells", .ref c), (.inr "turn", .int t)]
theorem n1 : ¬ (("large" : Str) = "rest") := by decide +kernel
theorem n2 : ¬ (("large" : Str) = "cells") := by decide +kernel
theorem n3 : ¬ (("large" : Str) = "turn") := by decide +kernel
theorem n4 : ¬ (("rest" : Str) = "cells") := by decide +kernel
theorem n5 : ¬ (("rest" : Str) = "turn") := by decide +kernel
theorem n6 : ¬ (("cells" : Str) = "turn") := by decide +kernel
theorem m1 : ¬ (("rest" : Str) = "large") := by decide +kernel
theorem m2 : ¬ (("cells" : Str) = "large") := by decide +kernel
theorem m3 : ¬ (("turn" : Str) = "large") := by decide +kernel
theorem m4 : ¬ (("cells" : Str) = "rest") := by decide +kernel
theorem m5 : ¬ (("turn" : Str) = "rest") := by decide +kernel
theorem m6 : ¬ (("turn" : Str) = "cells") := by decide +kernel
section
variable (l c : Addr) (r t x : Int)
theorem v_large : valV (dkv l c r t) (Sum.inr "large" : Key) = some (.ref l) := by simp [dkv, valV]
theorem v_rest : valV (dkv l c r t) (Sum.inr "rest" : Key) = some (.int r) := by simp [dkv, valV, n1]
theorem v_cells : valV (dkv l c r t) (Sum.inr "cells" : Key) = some (.ref c) := by simp [dkv, valV, n2, n4]
theorem v_turn : valV (dkv l c r t) (Sum.inr "turn" : Key) = some (.int t) := by simp [dkv, valV, n3, n5, n6]
theorem p_rest : putK (dkv l c r t) (Sum.inr "rest" : Key) (.int x) = dkv l c x t := by simp [dkv, putK, n1, m4, m5]
theorem p_turn : putK (dkv l c r t) (Sum.inr "turn" : Key) (.int x) = dkv l c r x := by simp [dkv, putK, n3, n5, n6]
theorem merged_eq : mergeK [] (dkv l c r t) = dkv l c r t := by
  simp [dkv, mergeK, putK, n1, n2, n3, n4, n5, n6]
end
/-- a drawing dict stands at d, its lists at l and c -/
structure DrawAt (H : Hp) (d l c : Addr) : Prop where
  dl : d ≠ l
  dc : d ≠ c
  lc : l ≠ c
  ex : ∃ (r t : Int) (ls cs : List Int), H d = some (.dK (dkv l c r t)) ∧ H l = some (.lst (ls.map V.int)) ∧ H c = some (.lst (cs.map V.int)) ∧ ls.length ≤ 1000 ∧ cs.length ≤ 1000
/-- all but the drawing dict and its first list is as it was -/
def But (H H' : Hp) (d l : Addr) : Prop := ∀ b o, H b = some o → b ≠ d → b ≠ l → H' b = some o
theorem But.refl (H : Hp) (d l : Addr) : But H H d l := fun _ _ h _ _ => h
theorem But.trans {H H1 H2 : Hp} {d l : Addr} (a : But H H1 d l) (b : But H1 H2 d l) : But H H2 d l := fun x o h h1 h2 => b x o (a x o h h1 h2) h1 h2

def spBegun (K : PySem.W.Frag) : Sp := fun vs H Q _ => ∃ (a : Addr) (ns : List Int), vs = [.ref a] ∧ SqL K H a (ns.map V.int) ∧ ns.length ≤ 63 ∧
  ∀ (d l c : Addr) (H' : Hp), Same H H' → H d = none → H l = none → H c = none → DrawAt H' d l c → Q (.ref d) H'
def spMixed : Sp := fun vs H Q _ => ∃ (d l c : Addr), vs = [.ref d] ∧ DrawAt H d l c ∧ ∀ (n : Int) (H' : Hp), DrawAt H' d l c → But H H' d l → Q (.int n) H'
def spTake : Sp := fun vs H Q _ => ∃ (d l c : Addr) (m : Int), vs = [.ref d, .int m] ∧ 0 < m ∧ m < 1000000 ∧ DrawAt H d l c ∧ ∀ (n : Int) (H' : Hp), 0 ≤ n → n < m → DrawAt H' d l c → But H H' d l → Q (.int n) H'
def spPick (K : PySem.W.Frag) : Sp := fun vs H Q _ => ∃ (d l c a : Addr) (xs : List V), vs = [.ref d, .ref a] ∧ H a = some (.lst xs) ∧ a ≠ d ∧ a ≠ l ∧ 0 < xs.length ∧ xs.length < 1000 ∧ DrawAt H d l c ∧
  ∀ (i : Nat) (x : V) (H' : Hp), xs[i]? = some x → DrawAt H' d l c → But H H' d l → Q x H'
section
variable {P : Program} {w : World} {K : PySem.W.Frag} {mg : Str → Option Value} {base : Heap}
theorem len_take_map {ns : List Int} {i : Nat} {x : V} (h : (ns.map V.int)[i]? = some x) : ∃ z, x = .int z ∧ i < ns.length := by
  rw [List.getElem?_map] at h
  cases e : ns[i]? with
  | none => rw [e] at h; cases h
  | some z => rw [e] at h; exact ⟨z, (Option.some.inj h).symm, (List.getElem?_eq_some_iff.mp e).1⟩
theorem ok_begun {f : Addr} {fd : FuncData} (F : Fun K "_law_begun" "_law_begun" sBegun f fd) (mA : mg "abs" = none) : FnOk P w K mg base CX0 1 f fd ["script"] (spBegun K) := by
  refine F.ok scBegun (fun vs H Q E h => ?_) (fun cdv A outer s H vs Q E hr h => ?_)
  · obtain ⟨a, ns, rfl, _⟩ := h
    rfl
  · obtain ⟨a, ns, rfl, hS, hlen, k⟩ := h
    have hu := hu_of hr
    have nd := scBegun.nd
    refine ⟨_, pss_cons (ps_setLc (i := 1) (own := [("grain", 2)]) (g := gName 2) rfl nd rfl rfl (sw_true rfl rfl rfl (by decide +kernel)) (pi_list (pv 0))
        (blkOk_by (N := ["script", "large", "grain"]) (sc := defScope sBegun) (by decide +kernel)) (fun _ _ _ _ _ => pg_name (i := 2) nd rfl (Or.inl rfl))
        (fun _ _ _ _ _ => pts_one (pt_cmpR op_ge (pe_callB call_abs (by rfl) mA (by decide +kernel) (pa_cons (pv 2) pa_nil)) (pe_op op_pow pe_int pe_int) (nomark _)))
        (fun _ _ _ _ _ => pe_op op_sub (pe_callB call_abs (by rfl) mA (by decide +kernel) (pa_cons (pv 2) pa_nil)) (pe_op op_pow pe_int pe_int)))
      (pss_one (ps_ret (pe_disp (pps_cons pe_str (pv 1) (pps_cons pe_str pe_int (pps_cons pe_str
        (pe_lc (own := [("grain", 2)]) (g := gName 2) rfl nd (pi_list (pv 0)) (blkOk_by (N := ["script", "large", "grain"]) (sc := defScope sBegun) (by decide +kernel))
          (fun _ _ _ _ _ => pg_name (i := 2) nd rfl (Or.inl rfl)) (fun _ _ _ _ _ => pts_nil) (fun _ _ _ _ _ => pe_callB call_abs (by rfl) mA (by decide +kernel) (pa_cons (pv 2) pa_nil)))
        (pps_cons pe_str pe_int pps_nil)))) (by rfl) (by rfl) (fun z => by cases z) (by decide)))), ?_⟩
    -- large = [..]
    refine ⟨_, rfl, a, rfl, ⟨_, hS⟩, fun l nl => ?_⟩
    have sL : Same H (upd H l (.lst [])) := fun b o e => by rw [upd_ne (ne_of_none e nl)]; exact e
    refine lc_list (K := K) (a := a) (xs := ns.map V.int) (fun i H' => Same H H' ∧ ∃ ls : List Int, H' l = some (.lst (ls.map V.int)) ∧ ls.length ≤ i)
      ⟨sL, [], upd_same, Nat.le_refl _⟩ (fun i H' _ ⟨s1, _⟩ => s1.seq hS) ?_ ?_
    · rintro i x H' hx ⟨s1, ls, e1, h1⟩
      obtain ⟨z, rfl, hi⟩ := len_take_map hx
      refine ⟨rfl, ?_⟩
      refine ⟨_, rfl, z, rfl, 10, 18, rfl, rfl, ⟨by decide, by decide, by decide⟩, _, _, rfl, rfl, _, rfl, ?_⟩
      refine ite2 (fun _ => ?_) (fun _ => ?_)
      · refine ⟨_, rfl, z, rfl, 10, 18, rfl, rfl, ⟨by decide, by decide, by decide⟩, _, _, rfl, rfl, _, e1, small1000 (by rw [List.length_map]; omega), ?_⟩
        refine ⟨fun b o e => ?_, ls ++ [_], by rw [upd_same, List.map_append]; rfl, by rw [List.length_append, List.length_singleton]; omega⟩
        rw [upd_ne (ne_of_none e nl)]
        exact s1 b o e
      · exact ⟨s1, ls, e1, by omega⟩
    · rintro H1 ⟨s1, ls, e1, h1⟩
      rw [List.length_map] at h1
      -- return {..}
      intro d nd1
      have ndl : d ≠ l := fun z => by rw [z, e1] at nd1; cases nd1
      have s2 : Same H1 (upd H1 d (.dK [])) := fun b o e => by rw [upd_ne (ne_of_none e nd1)]; exact e
      refine ⟨_, rfl, _, rfl, a, rfl, ⟨_, s2.seq (s1.seq hS)⟩, fun c nc => ?_⟩
      have ncd : c ≠ d := fun z => by rw [z, upd_same] at nc; cases nc
      have nc1 : H1 c = none := by rw [upd_ne ncd] at nc; exact nc
      have ncl : l ≠ c := fun z => by rw [← z, e1] at nc1; cases nc1
      refine lc_list (K := K) (a := a) (xs := ns.map V.int) (fun i H' => Same (upd H1 d (.dK [])) H' ∧ ∃ cs : List Int, H' c = some (.lst (cs.map V.int)) ∧ cs.length ≤ i)
        ⟨fun b o e => by rw [upd_ne (ne_of_none e nc)]; exact e, [], upd_same, Nat.le_refl _⟩ (fun i H' _ ⟨s3, _⟩ => s3.seq (s2.seq (s1.seq hS))) ?_ ?_
      · rintro i x H' hx ⟨s3, cs, e3, h3⟩
        obtain ⟨z, rfl, hi⟩ := len_take_map hx
        refine ⟨rfl, ?_⟩
        refine ⟨_, rfl, z, rfl, _, e3, small1000 (by rw [List.length_map]; omega), ?_⟩
        refine ⟨fun b o e => ?_, cs ++ [_], by rw [upd_same, List.map_append]; rfl, by rw [List.length_append, List.length_singleton]; omega⟩
        rw [upd_ne (ne_of_none e nc)]
        exact s3 b o e
      · rintro H2 ⟨s3, cs, e3, h3⟩
        rw [List.length_map] at h3
        have ed : H2 d = some (.dK []) := s3 d _ upd_same
        have el : H2 l = some (.lst (ls.map V.int)) := s3 l _ (by rw [upd_ne ndl.symm]; exact e1)
        refine ⟨ed, dkv l c 0 0, rfl, (by show 4 ≤ 15; decide), ?_⟩
        rw [merged_eq]
        refine k d l c _ (fun b o e => ?_) (s1.free nd1) nl (s1.free nc1) ⟨ndl, ncd.symm, ncl, 0, 0, ls, cs, upd_same, by rw [upd_ne ndl.symm]; exact el, by rw [upd_ne ncd]; exact e3, by omega, by omega⟩
        have e' := s3 b o (s2 b o (s1 b o e))
        rw [upd_ne (ne_of_none (s1 b o e) nd1)]
        exact e'

section
variable {H : Hp} {d l c : Addr} {r t : Int}
theorem get_large (ed : H d = some (.dK (dkv l c r t))) : DGet H d (.str "large") (some (.ref l)) := by
  have q := DGet.k (k := (Sum.inr "large" : Key)) ed
  rw [v_large] at q
  exact q
theorem get_rest (ed : H d = some (.dK (dkv l c r t))) : DGet H d (.str "rest") (some (.int r)) := by
  have q := DGet.k (k := (Sum.inr "rest" : Key)) ed
  rw [v_rest] at q
  exact q
theorem get_cells (ed : H d = some (.dK (dkv l c r t))) : DGet H d (.str "cells") (some (.ref c)) := by
  have q := DGet.k (k := (Sum.inr "cells" : Key)) ed
  rw [v_cells] at q
  exact q
theorem get_turn (ed : H d = some (.dK (dkv l c r t))) : DGet H d (.str "turn") (some (.int t)) := by
  have q := DGet.k (k := (Sum.inr "turn" : Key)) ed
  rw [v_turn] at q
  exact q
theorem dkv_small : (dkv l c r t).length < sizeLine := small1000 (by show 4 ≤ 1000; decide)
theorem put_rest (x : Int) (ed : H d = some (.dK (dkv l c r t))) : DPut H d (.str "rest") (.int x) (upd H d (.dK (dkv l c x t))) := by
  have q := DPut.k (k := (Sum.inr "rest" : Key)) (v := .int x) ed dkv_small
  rw [p_rest] at q
  exact q
theorem put_turn (x : Int) (ed : H d = some (.dK (dkv l c r t))) : DPut H d (.str "turn") (.int x) (upd H d (.dK (dkv l c r x))) := by
  have q := DPut.k (k := (Sum.inr "turn" : Key)) (v := .int x) ed dkv_small
  rw [p_turn] at q
  exact q
theorem DrawAt.put (D : DrawAt H d l c) (r t : Int) : DrawAt (upd H d (.dK (dkv l c r t))) d l c := by
  obtain ⟨h1, h2, h3, r0, t0, ls, cs, ed, el, ec, q⟩ := D
  exact ⟨h1, h2, h3, r, t, ls, cs, upd_same, by rw [upd_ne h1.symm]; exact el, by rw [upd_ne h2.symm]; exact ec, q⟩
theorem But.put (o : HO) : But H (upd H d o) d l := fun b u e h _ => by rw [upd_ne h]; exact e
theorem DrawAt.same {H' : Hp} (D : DrawAt H d l c) (s : Same H H') : DrawAt H' d l c := by
  obtain ⟨h1, h2, h3, r0, t0, ls, cs, ed, el, ec, q⟩ := D
  exact ⟨h1, h2, h3, r0, t0, ls, cs, s _ _ ed, s _ _ el, s _ _ ec, q⟩
theorem But.same {H1 H' : Hp} (s : Same H1 H') (q : But H H1 d l) : But H H' d l := fun b u e h h' => s _ _ (q b u e h h')
end
def greats : List V := [.int 2147483629, .int 2147483587, .int 2147483579]
theorem great_of {i : Nat} {x : V} (h : greats[i]? = some x) : ∃ g : Int, x = .int g ∧ 0 < g ∧ g < 2147483648 := by
  match i, h with
  | 0, h => exact ⟨_, (Option.some.inj h).symm, by decide, by decide⟩
  | 1, h => exact ⟨_, (Option.some.inj h).symm, by decide, by decide⟩
  | 2, h => exact ⟨_, (Option.some.inj h).symm, by decide, by decide⟩
  | n + 3, h => cases h
theorem ok_mixed {f : Addr} {fd : FuncData} (F : Fun K "_law_mixed" "_law_mixed" sMixed f fd) (mI : mg "int" = none) : FnOk P w K mg base CX0 1 f fd ["draw"] spMixed := by
  refine F.ok scMixed (fun vs H Q E h => ?_) (fun cdv A outer s H vs Q E hr h => ?_)
  · obtain ⟨d, l, c, rfl, _⟩ := h
    rfl
  · obtain ⟨d, l, c, rfl, D, k⟩ := h
    have hu := hu_of hr
    have nd := scMixed.nd
    refine ⟨_, pss_cons (ps_dput hu (pv 0) pe_str (pe_op op_add (pe_dget hu (pv 0) pe_str (fun _ _ => rfl)) pe_int) rfl)
      (pss_cons (ps_par (i := 1) (j := 2) rfl nd rfl rfl (by decide) rfl rfl (pa_cons (pe_callTy call_int1 (by rfl) mI (by decide +kernel) (pa_cons (pe_dget hu (pv 0) pe_str (fun _ _ => rfl)) pa_nil)) (pa_cons pe_int pa_nil)) (by rfl))
      (pss_cons (ps_for PassesOwn.never rfl (pi_list (pe_lst (pa_cons pe_int (pa_cons pe_int (pa_cons pe_int pa_nil))))) (pg_name (i := 3) nd rfl (Or.inl rfl))
        (pss_cons (ps_set (i := 4) nd rfl (Or.inl rfl) (pe_op op_modN (pe_op op_add (pe_op op_mul (pv 1) pe_int) (pe_op op_fdiv (pv 3) pe_int)) (pv 3)))
        (pss_cons (ps_for PassesOwn.never rfl (pi_list (pe_dget hu (pv 0) pe_str (fun _ _ => rfl))) (pg_name (i := 5) nd rfl (Or.inl rfl))
          (pss_one (ps_set (i := 4) nd rfl (Or.inl rfl) (pe_op op_modN (pe_op op_add (pe_op op_mul (pv 4) pe_int) (pe_callTy call_int1 (by rfl) mI (by decide +kernel) (pa_cons (pv 5) pa_nil))) (pv 3)))))
        (pss_one (ps_set (i := 2) nd rfl (Or.inl rfl) (pe_op op_add (pe_op op_mul (pv 2) pe_int) (pe_op op_modN (pe_op op_pow (pv 4) pe_int) (pv 3))))))))
      (pss_one (ps_ret (pv 2))))), ?_⟩
    obtain ⟨_, _, _, r, t, ls, cs, ed, el, ec, hl, hc⟩ := id D
    refine ⟨_, rfl, d, _, rfl, get_turn ed, _, _, rfl, rfl, _, rfl, d, _, rfl, put_turn _ ed, ?_⟩
    have D1 := D.put r (t + 1)
    have B1 : But H (upd H d (.dK (dkv l c r (t + 1)))) d l := But.put _
    have ed1 : (upd H d (.dK (dkv l c r (t + 1)))) d = some (.dK (dkv l c r (t + 1))) := upd_same
    have ec1 : (upd H d (.dK (dkv l c r (t + 1)))) c = some (.lst (cs.map V.int)) := by rw [upd_ne D.dc.symm]; exact ec
    generalize upd H d (.dK (dkv l c r (t + 1))) = H1 at D1 B1 ed1 ec1 ⊢
    refine ⟨_, rfl, d, _, rfl, get_turn ed1, .inl ⟨_, rfl, _, _, rfl, ?_⟩⟩
    refine ⟨by show 3 ≤ sizeLine; decide, fun q nq => ?_⟩
    have s2 : Same H1 (upd H1 q (.lst greats)) := fun b o e => by rw [upd_ne (ne_of_none e nq)]; exact e
    refine ⟨q, rfl, ⟨_, SqL.of upd_same⟩, for_list (K := K) (a := q) (xs := greats) (fun i σ H' => ∃ (f : Int) (g3 g4 g5 : Option V), σ = [some (.ref d), some (.int (t + 1)), some (.int f), g3, g4, g5] ∧ Same H1 H' ∧ H' q = some (.lst greats))
      ⟨0, none, none, none, rfl, s2, upd_same⟩ (fun i σ H' _ ⟨_, _, _, _, _, _, e⟩ => SqL.of e) ?_ ?_⟩
    · rintro i x σ H' hx ⟨f, g3, g4, g5, rfl, s3, eq⟩
      obtain ⟨g, rfl, g0, g1⟩ := great_of hx
      refine ⟨_, rfl, _, _, rfl, rfl, .inr ⟨by decide, by decide⟩, _, rfl, _, _, rfl, rfl, ⟨by decide, by decide⟩, _, _, rfl, rfl, _, rfl, _, _, rfl, rfl, (by omega), ?_⟩
      have hb0 : 0 ≤ ((t + 1) * 69621 + g / 7).fmod g := Int.fmod_nonneg_of_pos _ g0
      have hb1 : ((t + 1) * 69621 + g / 7).fmod g < g := Int.fmod_lt_of_pos _ g0
      refine ⟨_, rfl, d, _, rfl, get_cells (s3 _ _ ed1), c, rfl, ⟨_, SqL.of (s3 _ _ ec1)⟩, for_list (K := K) (a := c) (xs := cs.map V.int) (fun j σ H2 => ∃ (b : Int) (g5 : Option V), σ = [some (.ref d), some (.int (t + 1)), some (.int f), some (.int g), some (.int b), g5] ∧ 0 ≤ b ∧ b < g ∧ H2 = H')
        ⟨_, g5, rfl, hb0, hb1, rfl⟩ (fun j σ H2 _ ⟨_, _, _, _, _, e⟩ => by rw [e]; exact SqL.of (s3 _ _ ec1)) ?_ ?_⟩
      · rintro j y σ H2 hy ⟨b, g5, rfl, b0, b1, rfl⟩
        obtain ⟨z, rfl, _⟩ := len_take_map hy
        refine ⟨_, rfl, _, _, rfl, rfl, .inr ⟨by decide, by decide⟩, _, rfl, .inl ⟨_, rfl, _, _, rfl, rfl, _, rfl, _, _, rfl, rfl, (by omega), ?_⟩⟩
        exact ⟨_, _, rfl, Int.fmod_nonneg_of_pos _ g0, Int.fmod_lt_of_pos _ g0, rfl⟩
      · rintro σ H2 ⟨b, g5, rfl, b0, b1, rfl⟩
        refine ⟨_, rfl, _, _, rfl, rfl, .inr ⟨by decide, by decide⟩, _, rfl, _, _, rfl, rfl, ⟨by decide, by decide, by omega⟩, _, rfl, _, _, rfl, rfl, (by omega), _, _, rfl, rfl, ?_⟩
        exact ⟨_, _, _, _, rfl, s3, eq⟩
    · rintro σ H' ⟨f, g3, g4, g5, rfl, s3, eq⟩
      exact ⟨_, rfl, k f _ (D1.same s3) (B1.same s3)⟩
theorem depth_ints : ∀ ls : List Int, PyData.depthAll (ls.map PyData.int) = 0
  | [] => by simp [PyData.depthAll]
  | x :: xs => by rw [List.map_cons, PyData.depthAll, depth_ints xs]; simp [PyData.depth]
theorem lay_ints : ∀ ls : List Int, PyData.canLayAll0 (ls.map PyData.int) = true
  | [] => by simp [PyData.canLayAll0]
  | x :: xs => by rw [List.map_cons, PyData.canLayAll0, lay_ints xs]; simp [PyData.canLay0]
theorem shaped_ints (ls : List Int) : SeqAt.shaped (.list (ls.map PyData.int)) = true := by
  unfold SeqAt.shaped
  rw [PyData.canLay0, lay_ints, PyData.depth, depth_ints]
  rfl
theorem dp_ints {K : PySem.W.Frag} {H : Hp} : ∀ ls : List Int, DpAll K H (ls.map V.int) (ls.map PyData.int)
  | [] => .nil
  | x :: xs => .cons (.int x) (dp_ints xs)
theorem ok_take {f fM : Addr} {fd fdM : FuncData} (F : Fun K "_law_take" "_law_take" sTake f fd) (mI : mg "int" = none) (FM : Fun K "_law_mixed" "_law_mixed" sMixed fM fdM) (bM : Binds K fdM ["draw"] [])
    (mM : mg "_law_mixed" = some (.ref fM)) : FnOk P w K mg base CX0 2 f fd ["draw", "amount"] spTake := by
  have GM : FnOk P w K mg base CX0 1 fM fdM ["draw"] spMixed := ok_mixed FM mI
  refine F.ok scTake (fun vs H Q E h => ?_) (fun cdv A outer s H vs Q E hr h => ?_)
  · obtain ⟨d, l, c, m, rfl, _⟩ := h
    rfl
  · obtain ⟨d, l, c, m, rfl, m0, m1, D, k⟩ := h
    have hu := hu_of hr
    have nd := scTake.nd
    refine ⟨_, pss_cons (ps_if (pt_cmpR op_eq (pe_dget hu (pv 0) pe_str (fun _ _ => rfl)) pe_int (nomark _))
        (pss_one (ps_dput hu (pv 0) pe_str (pe_ifExp (pt_cmpR (op_neD hr.units) (pe_dget hu (pv 0) pe_str (fun _ _ => rfl)) (pe_lst pa_nil) (nomark _))
          (pe_bm PySem.F.plainAttrs_list PySem.F.slot_list_pop PySem.F.type_list_pop mt_popAt (pe_dget hu (pv 0) pe_str (fun _ _ => rfl)) (pa_cons pe_int pa_nil))
          (pe_call GM hr rfl mM FM.kp bM .nil pass0 (pa_cons (pv 0) pa_nil))) rfl)) pss_nil)
      (pss_cons (ps_set (i := 2) nd rfl (Or.inl rfl) (pe_op op_mod (pe_callTy call_int1 (by rfl) mI (by decide +kernel) (pa_cons (pe_dget hu (pv 0) pe_str (fun _ _ => rfl)) pa_nil)) (pv 1)))
      (pss_cons (ps_dput hu (pv 0) pe_str (pe_op op_fdiv (pe_callTy call_int1 (by rfl) mI (by decide +kernel) (pa_cons (pe_dget hu (pv 0) pe_str (fun _ _ => rfl)) pa_nil)) (pv 1)) rfl)
      (pss_one (ps_ret (pv 2))))), ?_⟩
    obtain ⟨_, _, _, r, t, ls, cs, ed, el, ec, hl, hc⟩ := id D
    refine ⟨_, rfl, d, _, rfl, get_rest ed, rfl, _, rfl, ?_⟩
    refine ite2 (fun _ => ?_) (fun _ => ?_)
    · refine ⟨_, rfl, d, _, rfl, get_large ed, Nat.zero_le _, fun q nq => ?_⟩
      have sq : Same H (upd H q (.lst [])) := fun b o e => by rw [upd_ne (ne_of_none e nq)]; exact e
      have Dq : DrawAt (upd H q (.lst [])) d l c := D.same sq
      have Bq : But H (upd H q (.lst [])) d l := But.same sq (But.refl _ _ _)
      have eq := sq _ _ ed
      have eql := sq _ _ el
      have ecq := sq _ _ ec
      refine ⟨.list (ls.map PyData.int), .list [], .lst (SqL.of eql) (dp_ints ls), .lst (SqL.of upd_same) .nil, shaped_ints ls, rfl, _, rfl, ?_⟩
      generalize upd H q (.lst []) = H1 at Dq Bq eq eql ecq ⊢
      cases ls with
      | nil =>
        refine iteF ?_
        refine ⟨_, rfl, d, l, c, rfl, Dq, fun n H2 D2 B2 => ?_⟩
        obtain ⟨_, _, _, r2, t2, ls2, cs2, ed2, _⟩ := id D2
        refine ⟨_, rfl, d, _, rfl, put_rest n ed2, ?_⟩
        have D1 := D2.put n t2
        have B1 : But H (upd H2 d (.dK (dkv l c n t2))) d l := (Bq.trans B2).trans (But.put _)
        have ed1 : (upd H2 d (.dK (dkv l c n t2))) d = some (.dK (dkv l c n t2)) := upd_same
        generalize upd H2 d (.dK (dkv l c n t2)) = H3 at D1 B1 ed1 ⊢
        exact ⟨_, rfl, d, _, rfl, get_rest ed1, .inl ⟨_, rfl, _, rfl, _, _, rfl, rfl, m0, _, rfl, d, _, rfl, get_rest ed1, .inl ⟨_, rfl, _, rfl, _, _, rfl, rfl, ⟨m0, by omega⟩, _, rfl, d, _, rfl, put_rest _ ed1, _, rfl, k _ _ (Int.emod_nonneg _ (by omega)) (Int.emod_lt_of_pos _ m0) (D1.put _ _) (B1.trans (But.put _))⟩⟩⟩
      | cons z zs =>
        refine iteT ?_
        refine ⟨_, rfl, d, _, rfl, get_large eq, .inl ⟨rfl, _, SqL.of eql⟩, l, _, 0, 0, .int z, rfl, rfl, eql, by decide, by decide, by simp [seqIndex?], rfl, ?_⟩
        have Dw : DrawAt (upd H1 l (.lst (zs.map V.int))) d l c := ⟨D.dl, D.dc, D.lc, r, t, zs, cs, by rw [upd_ne D.dl]; exact eq, upd_same, by rw [upd_ne D.lc.symm]; exact ecq, by simp at hl; omega, hc⟩
        have Bw : But H1 (upd H1 l (.lst (zs.map V.int))) d l := fun b o e _ h => by rw [upd_ne h]; exact e
        have edw : (upd H1 l (.lst (zs.map V.int))) d = some (.dK (dkv l c r t)) := by rw [upd_ne D.dl]; exact eq
        refine ⟨_, rfl, d, _, rfl, put_rest z edw, ?_⟩
        have D1 := Dw.put z t
        have B1 : But H (upd (upd H1 l (.lst (zs.map V.int))) d (.dK (dkv l c z t))) d l := (Bq.trans Bw).trans (But.put _)
        have ed1 : (upd (upd H1 l (.lst (zs.map V.int))) d (.dK (dkv l c z t))) d = some (.dK (dkv l c z t)) := upd_same
        exact ⟨_, rfl, d, _, rfl, get_rest ed1, .inl ⟨_, rfl, _, rfl, _, _, rfl, rfl, m0, _, rfl, d, _, rfl, get_rest ed1, .inl ⟨_, rfl, _, rfl, _, _, rfl, rfl, ⟨m0, by omega⟩, _, rfl, d, _, rfl, put_rest _ ed1, _, rfl, k _ _ (Int.emod_nonneg _ (by omega)) (Int.emod_lt_of_pos _ m0) (D1.put _ _) (B1.trans (But.put _))⟩⟩⟩
    · have D1 := D
      have B1 : But H H d l := But.refl _ _ _
      have ed1 := ed
      exact ⟨_, rfl, d, _, rfl, get_rest ed1, .inl ⟨_, rfl, _, rfl, _, _, rfl, rfl, m0, _, rfl, d, _, rfl, get_rest ed1, .inl ⟨_, rfl, _, rfl, _, _, rfl, rfl, ⟨m0, by omega⟩, _, rfl, d, _, rfl, put_rest _ ed1, _, rfl, k _ _ (Int.emod_nonneg _ (by omega)) (Int.emod_lt_of_pos _ m0) (D1.put _ _) (B1.trans (But.put _))⟩⟩⟩
theorem ok_pick {f fT : Addr} {fd fdT : FuncData} (F : Fun K "_law_pick" "_law_pick" sPick f fd) (mL : mg "len" = none) (GT : FnOk P w K mg base CX0 2 fT fdT ["draw", "amount"] spTake) (kT : PySem.W.keepIn K (.ref fT) = true)
    (bT : Binds K fdT ["draw", "amount"] []) (mT : mg "_law_take" = some (.ref fT)) : FnOk P w K mg base CX0 3 f fd ["draw", "some"] (spPick K) := by
  refine F.ok scPick (fun vs H Q E h => ?_) (fun cdv A outer s H vs Q E hr h => ?_)
  · obtain ⟨d, l, c, a, xs, rfl, _⟩ := h
    rfl
  · obtain ⟨d, l, c, a, xs, rfl, ea, ad, al, x0, x1, D, k⟩ := h
    have hu := hu_of hr
    refine ⟨_, pss_one (ps_ret (pe_ix ix_list (pv 1) (pe_call GT hr rfl mT kT bT .nil pass0 (pa_cons (pv 0) (pa_cons (pe_callB call_len_seq (by rfl) mL PySem.boot_len (pa_cons (pv 1) pa_nil)) pa_nil))) (fun _ _ => rfl))), ?_⟩
    refine ⟨_, rfl, _, rfl, _, rfl, a, _, rfl, .inl (SqL.of ea), d, l, c, _, rfl, by omega, by omega, D, fun n H' n0 n1 D' B' => ?_⟩
    have en : ((n.toNat : Nat) : Int) = n := Int.toNat_of_nonneg n0
    have hn : n.toNat < xs.length := by omega
    refine ⟨a, xs, n, xs[n.toNat], rfl, rfl, SqL.of (B' a _ ea ad al), (by have q := atI_nat (List.getElem?_eq_getElem hn); rw [en] at q; exact q), k n.toNat _ H' (List.getElem?_eq_getElem hn) D' B'⟩
end
end Dk
/-! The judging defs of kinds.py and sorts.py, over values that are read as data. -/
namespace Jd
open PySem PySem.Spec PyProof.Rows L2
def top (i : Nat) : Stmt := PySem.Challenge.pw_playsalike_k01_sorts_and_names_judged.main.body.getD i (.Pass ⟨0, 0, 0, 0⟩)
abbrev sNumber : Stmt := top 8
abbrev sWithin : Stmt := top 9
abbrev sWord : Stmt := top 10
abbrev sPair : Stmt := top 11
abbrev sPlain : Stmt := top 18
abbrev sSort : Stmt := top 19
abbrev sNames : Stmt := top 20
theorem scNumber : FnScope ["thing"] ["thing"] (defScope sNumber) := ⟨rfl, rfl, rfl, by decide +kernel, rfl, by decide +kernel, by decide +kernel⟩
theorem scWithin : FnScope ["thing", "least", "most"] ["thing", "least", "most"] (defScope sWithin) := ⟨rfl, rfl, rfl, by decide +kernel, rfl, by decide +kernel, by decide +kernel⟩
theorem scPair : FnScope ["thing"] ["thing"] (defScope sPair) := ⟨rfl, rfl, rfl, by decide +kernel, rfl, by decide +kernel, by decide +kernel⟩
theorem scPlain : FnScope ["thing"] ["thing"] (defScope sPlain) := ⟨rfl, rfl, rfl, by decide +kernel, rfl, by decide +kernel, by decide +kernel⟩
/-! ### data and their types -/
/-- a datum's type -/
def tyD : PyData → String
  | .none => "NoneType"
  | .bool _ => "bool"
  | .int _ => "int"
  | .str _ => "str"
  | .list _ => "list"
  | .tuple _ => "tuple"
  | _ => "dict"
section
variable {P : Program} {w : World} {K : PySem.W.Frag} {mg : Str → Option Value} {base : Heap} {H : Hp}
theorem sqL_ty {a : Addr} {xs : List V} (h : SqL K H a xs) : TyX K H (.ref a) (.type "list") := by
  rcases h with (h | ⟨o, h⟩) | ⟨o, _, _, h, hc, _⟩
  · exact .base (.lst h)
  · exact .base (.frz h)
  · exact .kList h hc
theorem sqT_ty {a : Addr} {xs : List V} (h : SqT K H a xs) : TyX K H (.ref a) (.type "tuple") := by
  rcases h with (h | ⟨o, h⟩) | ⟨o, _, _, h, hc, _⟩
  · exact .base (.tup h)
  · exact .fTuple h
  · exact .kTuple h hc
theorem dp_ty {v : V} {d : PyData} (h : Dp K H v d) : TyX K H v (.type (tyD d)) := by
  cases h with
  | non => exact .base .non
  | bl b => exact .base (.bl b)
  | int i => exact .base (.int i)
  | str x => exact .base (.str x)
  | lst h _ => exact sqL_ty h
  | tup h _ => exact sqT_ty h
theorem kit_str (d : PyData) : PySem.W.kitOne K (.type (tyD d)) (.type "str") = some (decide (tyD d = "str")) := by
  cases d <;> rfl
theorem kit_int (d : PyData) : PySem.W.kitOne K (.type (tyD d)) (.type "int") = some (decide (tyD d = "int" ∨ tyD d = "bool")) := by
  cases d <;> rfl
theorem kit_bool (d : PyData) : PySem.W.kitOne K (.type (tyD d)) (.type "bool") = some (decide (tyD d = "bool")) := by
  cases d <;> rfl
theorem kit_tuple (d : PyData) : PySem.W.kitOne K (.type (tyD d)) (.type "tuple") = some (decide (tyD d = "tuple")) := by
  cases d <;> rfl
theorem kit_dict (d : PyData) : PySem.W.kitOne K (.type (tyD d)) (.type "dict") = some (decide (tyD d = "dict")) := by
  cases d <;> rfl
/-- isinstance(x, T), x in the i-th slot, read as data -/
theorem isi {σ : L2.St} {Q : VK} {i : Nat} {v : V} {d : PyData} {n : String} {b : Bool} (h0 : σ[i]? = some (some v)) (hd : Dp K H v d) (kit : PySem.W.kitOne K (.type (tyD d)) (.type n) = some b) (q : Q (.bl b) H) :
    tCB (rIsi K) (tCons (tVar i) (tCons (tC (.ty n)) tNil)) σ H Q := ⟨v, h0, v, .ty n, _, _, _, rfl, .ty n, dp_ty hd, kit, q⟩
/-! ### kinds.py -/
def numD : PyData → Bool
  | .int _ => true
  | _ => false
def spNumber (K : PySem.W.Frag) : Sp := fun vs H Q _ => ∃ (v : V) (d : PyData), vs = [v] ∧ Dp K H v d ∧ Q (.bl (numD d)) H
theorem ok_number {f : Addr} {fd : FuncData} (F : Fun K "is_number" "is_number" sNumber f fd) (mI : mg "isinstance" = none) (mT : mg "int" = none) (mB : mg "bool" = none) : FnOk P w K mg base CX0 1 f fd ["thing"] (spNumber K) := by
  refine F.ok scNumber (fun vs H Q E h => ?_) (fun cdv A outer s H vs Q E hr h => ?_)
  · obtain ⟨v, d, rfl, _⟩ := h
    rfl
  · obtain ⟨v, d, rfl, hd, k⟩ := h
    refine ⟨_, pss_one (ps_ret (pe_and (pe_callB call_isi (by rfl) mI (by decide +kernel) (pa_cons (pv 0) (pa_cons (pe_bltn (v := V.ty "int") (by rfl) mT (by decide +kernel) rfl) pa_nil)))
      (pe_one (pe_not (pe_callB call_isi (by rfl) mI (by decide +kernel) (pa_cons (pv 0) (pa_cons (pe_bltn (v := V.ty "bool") (by rfl) mB (by decide +kernel) rfl) pa_nil))))))), ?_⟩
    refine isi rfl hd (kit_int d) ⟨_, rfl, ?_⟩
    cases d with
    | int n => exact isi rfl hd (kit_bool _) ⟨_, rfl, k⟩
    | bool b => exact isi rfl hd (kit_bool _) ⟨_, rfl, k⟩
    | _ => exact k
def withinD (a b : Int) : PyData → Bool
  | .int n => decide (a ≤ n) && decide (n ≤ b)
  | _ => false
def spWithin (K : PySem.W.Frag) : Sp := fun vs H Q _ => ∃ (v : V) (d : PyData) (a b : Int), vs = [v, .int a, .int b] ∧ Dp K H v d ∧ Q (.bl (withinD a b d)) H
theorem ok_within {f fN : Addr} {fd fdN : FuncData} (F : Fun K "is_within" "is_within" sWithin f fd) (GN : FnOk P w K mg base CX0 1 fN fdN ["thing"] (spNumber K)) (kN : PySem.W.keepIn K (.ref fN) = true) (bN : Binds K fdN ["thing"] []) (mN : mg "is_number" = some (.ref fN)) :
    FnOk P w K mg base CX0 2 f fd ["thing", "least", "most"] (spWithin K) := by
  refine F.ok scWithin (fun vs H Q E h => ?_) (fun cdv A outer s H vs Q E hr h => ?_)
  · obtain ⟨v, d, a, b, rfl, _⟩ := h
    rfl
  · obtain ⟨v, d, a, b, rfl, hd, k⟩ := h
    refine ⟨_, pss_one (ps_ret (pe_and (pe_call GN hr rfl mN kN bN .nil pass0 (pa_cons (pv 0) pa_nil)) (pe_one (pe_chain op_le op_le (pv 1) (pv 0) (pv 2))))), ?_⟩
    refine ⟨_, rfl, v, d, rfl, hd, _, rfl, ?_⟩
    cases d with
    | int n =>
      cases hd
      refine ⟨_, rfl, _, rfl, _, _, rfl, rfl, _, rfl, ?_⟩
      refine ite2 (fun e => ?_) (fun e => ?_)
      · refine ⟨_, rfl, _, _, rfl, rfl, ?_⟩
        have z : withinD a b (.int n) = decide (n ≤ b) := by show (decide (a ≤ n) && decide (n ≤ b)) = _; rw [e, Bool.true_and]
        rw [z] at k
        exact k
      · have z : withinD a b (.int n) = false := by
          show (decide (a ≤ n) && decide (n ≤ b)) = _
          rw [Bool.eq_false_iff.mpr e, Bool.false_and]
        rw [z] at k
        exact k
    | _ => exact k
def pairD : PyData → Bool
  | .tuple ds => ds.length == 2
  | _ => false
theorem dps_len : ∀ {vs : List V} {ds : List PyData}, DpAll K H vs ds → vs.length = ds.length
  | _, _, .nil => rfl
  | _, _, .cons _ t => congrArg (· + 1) (dps_len t)
def spPair (K : PySem.W.Frag) : Sp := fun vs H Q _ => ∃ (v : V) (d : PyData), vs = [v] ∧ Dp K H v d ∧ Q (.bl (pairD d)) H
theorem ok_pair {f : Addr} {fd : FuncData} (F : Fun K "is_pair" "is_pair" sPair f fd) (mI : mg "isinstance" = none) (mT : mg "tuple" = none) (mL : mg "len" = none) : FnOk P w K mg base CX0 1 f fd ["thing"] (spPair K) := by
  refine F.ok scPair (fun vs H Q E h => ?_) (fun cdv A outer s H vs Q E hr h => ?_)
  · obtain ⟨v, d, rfl, _⟩ := h
    rfl
  · obtain ⟨v, d, rfl, hd, k⟩ := h
    refine ⟨_, pss_one (ps_ret (pe_and (pe_callB call_isi (by rfl) mI (by decide +kernel) (pa_cons (pv 0) (pa_cons (pe_bltn (v := V.ty "tuple") (by rfl) mT (by decide +kernel) rfl) pa_nil)))
      (pe_one (pe_cmpR op_eq (pe_callB call_len_seq (by rfl) mL PySem.boot_len (pa_cons (pv 0) pa_nil)) pe_int (nomark _))))), ?_⟩
    refine isi rfl hd (kit_tuple d) ⟨_, rfl, ?_⟩
    cases d with
    | tuple ds =>
      obtain ⟨⟩ | ⟨⟩ | ⟨⟩ | ⟨⟩ | ⟨⟩ | @⟨_, xs, _, ht, ha⟩ := hd
      refine ⟨_, rfl, _, _, rfl, .inr ht, rfl, ?_⟩
      have z : pairD (.tuple ds) = decide (V.int ((xs.length : Nat) : Int) = V.int 2) := by
        show (ds.length == 2) = _
        rw [← dps_len ha, dec_int, Bool.eq_iff_iff]
        simp
        omega
      rw [z] at k
      exact k
    | _ => exact k
/-! ### sorts.py -/
def signs : Str := "abcdefghijklmnopqrstuvwxyz"
def plainVs : List V := [.str "num", .str "do", .str "box"]
def plainD : PyData → Bool
  | .str x => inV (.str x) plainVs
  | _ => false
/-- what the top has written for these defs -/
structure Top (K : PySem.W.Frag) (mg : Str → Option Value) (aP : Addr) : Prop where
  isi : mg "isinstance" = none
  len : mg "len" = none
  all : mg "all" = none
  tInt : mg "int" = none
  tBool : mg "bool" = none
  tStr : mg "str" = none
  tTup : mg "tuple" = none
  tDict : mg "dict" = none
  mP : mg "PLAIN_SORTS" = some (.ref aP)
  plain : ∀ H : Hp, SqT K H aP plainVs
  mS : ∃ t, mg "SIGNS" = some (.str signs t)
  mM : ∃ t, mg "MOST_NAMES" = some (.int 4 t)
def spPlain (K : PySem.W.Frag) : Sp := fun vs H Q _ => ∃ (v : V) (d : PyData), vs = [v] ∧ Dp K H v d ∧ Q (.bl (plainD d)) H
theorem ok_plain {f aP : Addr} {fd : FuncData} (F : Fun K "is_plain" "is_plain" sPlain f fd) (T : Top K mg aP) : FnOk P w K mg base CX0 1 f fd ["thing"] (spPlain K) := by
  refine F.ok scPlain (fun vs H Q E h => ?_) (fun cdv A outer s H vs Q E hr h => ?_)
  · obtain ⟨v, d, rfl, _⟩ := h
    rfl
  · obtain ⟨v, d, rfl, hd, k⟩ := h
    refine ⟨_, pss_one (ps_ret (pe_and (pe_callB call_isi (by rfl) T.isi (by decide +kernel) (pa_cons (pv 0) (pa_cons (pe_bltn (v := V.ty "str") (by rfl) T.tStr (by decide +kernel) rfl) pa_nil)))
      (pe_one (pe_cmpR op_in_seq (pv 0) (pe_glob (v := V.ref aP) (by rfl) T.mP rfl) (by rfl))))), ?_⟩
    refine isi rfl hd (kit_str d) ⟨_, rfl, ?_⟩
    cases d with
    | str x =>
      cases hd
      exact ⟨_, rfl, aP, _, rfl, .inr (T.plain _), rfl, rfl, k⟩
    | _ => exact k
/-- a sort, as is_sort tells it -/
def sortD : PyData → Bool
  | .tuple [.tuple ts, g] => !decide (3 < ts.length) && plainD g && ts.all plainD && (!(match g with | .str x => x == ("box" : Str) | _ => false) || ts.length == 0)
  | _ => false
theorem scSort : FnScope ["thing", "taken", "given", "sort"] ["thing"] (defScope sSort) := ⟨rfl, rfl, rfl, by decide +kernel, rfl, by decide +kernel, by decide +kernel⟩
def spSort (K : PySem.W.Frag) : Sp := fun vs H Q _ => ∃ (v : V) (d : PyData), vs = [v] ∧ Dp K H v d ∧ ∀ H', Same H H' → Q (.bl (sortD d)) H'
theorem sqT_same {H' : Hp} {a : Addr} {xs : List V} (e : Same H H') (h : SqT K H a xs) : SqT K H' a xs := by
  rcases h with (h | ⟨o, h⟩) | h
  · exact .inl (.inl (e _ _ h))
  · exact .inl (.inr ⟨o, e _ _ h⟩)
  · exact .inr h
mutual
theorem dp_same {H' : Hp} (e : Same H H') : ∀ {d : PyData} {v : V}, Dp K H v d → Dp K H' v d
  | _, _, .non => .non
  | _, _, .bl b => .bl b
  | _, _, .int i => .int i
  | _, _, .str x => .str x
  | _, _, .lst h t => .lst (e.seq h) (dps_same e t)
  | _, _, .tup h t => .tup (sqT_same e h) (dps_same e t)
theorem dps_same {H' : Hp} (e : Same H H') : ∀ {ds : List PyData} {vs : List V}, DpAll K H vs ds → DpAll K H' vs ds
  | _, _, .nil => .nil
  | _, _, .cons h t => .cons (dp_same e h) (dps_same e t)
end
theorem dps_get : ∀ {ds : List PyData} {vs : List V} {i : Nat} {v : V}, DpAll K H vs ds → vs[i]? = some v → ∃ d, ds[i]? = some d ∧ Dp K H v d
  | _, _, 0, _, .cons h _, e => by cases e; exact ⟨_, rfl, h⟩
  | _, _, i + 1, _, .cons _ t, e => dps_get (i := i) t e
theorem pair_cases (d : PyData) : (pairD d = false ∧ sortD d = false) ∨ ∃ x g, d = .tuple [x, g] := by
  cases d with
  | tuple ds =>
    match ds with
    | [] => exact .inl ⟨rfl, rfl⟩
    | [_] => exact .inl ⟨rfl, by simp [sortD]⟩
    | [x, g] => exact .inr ⟨x, g, rfl⟩
    | _ :: _ :: _ :: _ => exact .inl ⟨by simp [pairD], by simp [sortD]⟩
  | _ => exact .inl ⟨rfl, rfl⟩
theorem plain_str {g : PyData} (h : plainD g = true) : ∃ x, g = .str x := by
  cases g with
  | str x => exact ⟨x, rfl⟩
  | _ => cases h
theorem take_map_snoc {α β : Type} (f : α → β) {l : List α} {i : Nat} {x : α} (h : l[i]? = some x) : (l.take i).map f ++ [f x] = (l.take (i + 1)).map f := by
  rw [List.take_add_one, h, List.map_append]
  rfl
theorem ok_sort {f fQ fP aP : Addr} {fd fdQ fdP : FuncData} (F : Fun K "is_sort" "is_sort" sSort f fd) (T : Top K mg aP) (GQ : FnOk P w K mg base CX0 1 fQ fdQ ["thing"] (spPair K)) (kQ : PySem.W.keepIn K (.ref fQ) = true) (bQ : Binds K fdQ ["thing"] []) (mQ : mg "is_pair" = some (.ref fQ))
    (GP : FnOk P w K mg base CX0 1 fP fdP ["thing"] (spPlain K)) (kP : PySem.W.keepIn K (.ref fP) = true) (bP : Binds K fdP ["thing"] []) (mP : mg "is_plain" = some (.ref fP)) : FnOk P w K mg base CX0 2 f fd ["thing"] (spSort K) := by
  refine F.ok scSort (fun vs H Q E h => ?_) (fun cdv A outer s H vs Q E hr h => ?_)
  · obtain ⟨v, d, rfl, _⟩ := h
    rfl
  · obtain ⟨v, d, rfl, hd, k⟩ := h
    have nd := scSort.nd
    refine ⟨_, pss_cons (ps_if (pt_not (pt_val (pe_call GQ hr rfl mQ kQ bQ .nil pass0 (pa_cons (pv 0) pa_nil)))) (pss_one (ps_ret pe_bl)) pss_nil)
      (pss_cons (ps_asg (pv 0) (pg_tup (by rfl) (pgs_cons (pg_name (i := 1) nd rfl (Or.inl rfl)) (pgs_cons (pg_name (i := 2) nd rfl (Or.inl rfl)) pgs_nil))))
      (pss_cons (ps_if (PW.pt (pw_or (pt_not (pt_val (pe_callB call_isi (by rfl) T.isi (by decide +kernel) (pa_cons (pv 1) (pa_cons (pe_bltn (v := V.ty "tuple") (by rfl) T.tTup (by decide +kernel) rfl) pa_nil)))))
          (pw_or1 (pt_cmpR op_gt (pe_callB call_len_seq (by rfl) T.len PySem.boot_len (pa_cons (pv 1) pa_nil)) pe_int (nomark _))))) (pss_one (ps_ret pe_bl)) pss_nil)
      (pss_cons (ps_if (PW.pt (pw_or (pt_not (pt_val (pe_call GP hr rfl mP kP bP .nil pass0 (pa_cons (pv 2) pa_nil))))
          (pw_or1 (pt_not (pt_val (pe_callB (cr_all rfl) (by rfl) T.all (by decide +kernel) (pa_cons
            (pe_lc (own := [("sort", 3)]) (g := gName 3) rfl nd (pi_tup (pv 1)) (blkOk_by (N := ["thing", "taken", "given", "sort"]) (sc := defScope sSort) (by decide +kernel)) (fun _ _ _ _ _ => pg_name (i := 3) nd rfl (Or.inl rfl)) (fun _ _ _ _ _ => pts_nil)
              (fun _ _ _ _ _ => pe_call GP hr rfl mP kP bP .nil pass0 (pa_cons (pv 3) pa_nil))) pa_nil))))))) (pss_one (ps_ret pe_bl)) pss_nil)
      (pss_one (ps_ret (pe_or (pe_cmpR op_ne (pv 2) pe_str (nomark _)) (pe_one (pe_cmpR op_eq (pe_callB call_len_seq (by rfl) T.len PySem.boot_len (pa_cons (pv 1) pa_nil)) pe_int (nomark _))))))))), ?_⟩
    refine ⟨_, rfl, v, d, rfl, hd, _, rfl, ?_⟩
    rcases pair_cases d with ⟨np, ns⟩ | ⟨x, g, rfl⟩
    · rw [np]
      refine iteT ?_
      rw [ns] at k
      exact k _ (Same.refl _)
    refine iteF ?_
    obtain ⟨⟩ | ⟨⟩ | ⟨⟩ | ⟨⟩ | ⟨⟩ | @⟨a, xs, _, ht, ha⟩ := hd
    obtain _ | @⟨vx, _, _, _, hx, ha⟩ := ha
    obtain _ | @⟨vg, _, _, _, hg, ha⟩ := ha
    cases ha
    -- taken, given = thing
    refine ⟨_, rfl, a, _, rfl, ht, rfl, ?_⟩
    refine ⟨_, _, rfl, _, _, rfl, rfl, ?_⟩
    refine isi rfl hx (kit_tuple x) ⟨_, rfl, ?_⟩
    by_cases tx : tyD x = "tuple"
    case neg =>
      rw [decide_eq_false tx]
      refine iteT ?_
      have ns : sortD (.tuple [x, g]) = false := by
        cases x with
        | tuple ts => exact absurd rfl tx
        | _ => rfl
      rw [ns] at k
      exact k _ (Same.refl _)
    obtain ⟨ts, rfl⟩ : ∃ ts, x = .tuple ts := by
      cases x with
      | tuple ts => exact ⟨ts, rfl⟩
      | _ => exact absurd tx (by simp [tyD])
    refine iteF ?_
    obtain ⟨⟩ | ⟨⟩ | ⟨⟩ | ⟨⟩ | ⟨⟩ | @⟨b, ys, _, hb, hs⟩ := hx
    refine ⟨_, rfl, b, ys, rfl, .inr hb, _, _, rfl, rfl, _, rfl, ?_⟩
    have ly := dps_len hs
    have e3 : decide ((3 : Int) < (ys.length : Nat)) = decide (3 < ts.length) := by
      rw [← ly, decide_eq_decide]
      omega
    rw [e3]
    by_cases big : 3 < ts.length
    · rw [decide_eq_true big]
      refine iteT ?_
      have ns : sortD (.tuple [.tuple ts, g]) = false := by simp [sortD, big]
      rw [ns] at k
      exact k _ (Same.refl _)
    rw [decide_eq_false big]
    refine iteF ?_
    refine ⟨_, rfl, vg, g, rfl, hg, _, rfl, ?_⟩
    by_cases pg : plainD g = true
    case neg =>
      rw [Bool.eq_false_iff.mpr pg]
      refine iteT ?_
      have ns : sortD (.tuple [.tuple ts, g]) = false := by simp [sortD, pg]
      rw [ns] at k
      exact k _ (Same.refl _)
    rw [pg]
    refine iteF ?_
    -- all([is_plain(sort) for sort in taken])
    refine ⟨_, rfl, b, rfl, ⟨_, hb⟩, fun D nD => ?_⟩
    have sD : ∀ {H' : Hp} {o : HO}, Same H H' → Same H (upd H' D o) := fun z b o e => by
      rw [upd_ne (ne_of_none e nD)]
      exact z _ _ e
    refine lc_tup (K := K) (a := b) (xs := ys) (fun i H' => Same H H' ∧ H' D = some (.lst ((ts.take i).map fun t => V.bl (plainD t)))) ⟨sD (Same.refl _), upd_same⟩ (fun i H' _ ⟨z, _⟩ => sqT_same z hb) ?_ ?_
    · rintro i y H' hy ⟨z, e1⟩
      obtain ⟨t, et, dt⟩ := dps_get hs hy
      refine ⟨rfl, ?_⟩
      refine ⟨_, rfl, y, t, rfl, dp_same z dt, _, e1, ?_, sD z, ?_⟩
      · rw [List.length_map, List.length_take]
        exact small1000 (by omega)
      · rw [upd_same, take_map_snoc (fun t => V.bl (plainD t)) et]
    · rintro H' ⟨z, e1⟩
      rw [ly, List.take_length] at e1
      refine ⟨_, ts.map plainD, rfl, SqL.of (by rw [e1, List.map_map]; rfl), _, rfl, ?_⟩
      have ea : (ts.map plainD).all id = ts.all plainD := by
        rw [List.all_map]
        rfl
      rw [ea]
      by_cases al : ts.all plainD = true
      case neg =>
        rw [Bool.eq_false_iff.mpr al]
        refine iteT ?_
        have ns : sortD (.tuple [.tuple ts, g]) = false := by
          show (_ && _ && ts.all plainD && _) = false
          rw [Bool.eq_false_iff.mpr al, Bool.and_false, Bool.false_and]
        rw [ns] at k
        exact k _ z
      rw [al]
      refine iteF ?_
      obtain ⟨x, rfl⟩ := plain_str pg
      cases hg
      have es : sortD (.tuple [.tuple ts, .str x]) = (!(x == ("box" : Str)) || ts.length == 0) := by
        show (!decide (3 < ts.length) && plainD (.str x) && ts.all plainD && _) = _
        rw [decide_eq_false big, pg, al]
        rfl
      rw [es] at k
      -- given != 'box' or len(taken) == 0
      have es0 : decide (V.str x = V.str "box") = (x == ("box" : Str)) := dec_str
      refine ⟨_, rfl, rfl, _, rfl, ?_⟩
      rw [es0]
      by_cases ex : (x == ("box" : Str)) = true
      · rw [ex] at k ⊢
        refine iteF ?_
        refine ⟨_, rfl, b, ys, rfl, .inr (sqT_same z hb), rfl, ?_⟩
        have e0 : decide (V.int ((ys.length : Nat) : Int) = V.int 0) = (ts.length == 0) := by
          rw [dec_int, ← ly, Bool.eq_iff_iff]
          simp
        rw [e0]
        exact k _ z
      · rw [Bool.eq_false_iff.mpr ex] at k ⊢
        refine iteT ?_
        exact k _ z
/-! ### words -/
def signB (c : Nat) : Bool := decide (c ∈ signs.cps.toList)
def wordD : PyData → Bool
  | .str x => decide ((1 : Int) ≤ (x.length : Nat)) && decide (((x.length : Nat) : Int) ≤ 8) && x.cps.toList.all signB
  | _ => false
theorem scWord : FnScope ["thing", "sign"] ["thing"] (defScope sWord) := ⟨rfl, rfl, rfl, by decide +kernel, rfl, by decide +kernel, by decide +kernel⟩
def spWord (K : PySem.W.Frag) : Sp := fun vs H Q _ => ∃ (v : V) (d : PyData), vs = [v] ∧ Dp K H v d ∧ (∀ x, d = .str x → x.length ≤ sizeLine) ∧ ∀ H', Same H H' → Q (.bl (wordD d)) H'
theorem ok_word {f aP : Addr} {fd : FuncData} (F : Fun K "is_word" "is_word" sWord f fd) (T : Top K mg aP) : FnOk P w K mg base CX0 1 f fd ["thing"] (spWord K) := by
  refine F.ok scWord (fun vs H Q E h => ?_) (fun cdv A outer s H vs Q E hr h => ?_)
  · obtain ⟨v, d, rfl, _⟩ := h
    rfl
  · obtain ⟨v, d, rfl, hd, hz, k⟩ := h
    have nd := scWord.nd
    obtain ⟨tS, mS⟩ := T.mS
    refine ⟨_, pss_cons (ps_if (PW.pt (pw_or (pt_not (pt_val (pe_callB call_isi (by rfl) T.isi (by decide +kernel) (pa_cons (pv 0) (pa_cons (pe_bltn (v := V.ty "str") (by rfl) T.tStr (by decide +kernel) rfl) pa_nil)))))
          (pw_or1 (pt_not (pt_chain op_le op_le pe_int (pe_callB call_len_str (by rfl) T.len PySem.boot_len (pa_cons (pv 0) pa_nil)) pe_int))))) (pss_one (ps_ret pe_bl)) pss_nil)
      (pss_one (ps_ret (pe_callB (cr_all rfl) (by rfl) T.all (by decide +kernel) (pa_cons
            (pe_lc (own := [("sign", 1)]) (g := gName 1) rfl nd (pi_str (pv 0)) (blkOk_by (N := ["thing", "sign"]) (sc := defScope sWord) (by decide +kernel)) (fun _ _ _ _ _ => pg_name (i := 1) nd rfl (Or.inl rfl)) (fun _ _ _ _ _ => pts_nil)
              (fun _ _ _ _ _ => pe_cmpR op_in_sign (pv 1) (pe_glob (v := V.str signs) (by rfl) mS ⟨tS, rfl⟩) (by rfl))) pa_nil)))), ?_⟩
    refine isi rfl hd (kit_str d) ⟨_, rfl, ?_⟩
    by_cases tx : tyD d = "str"
    case neg =>
      rw [decide_eq_false tx]
      refine iteT ?_
      have ns : wordD d = false := by
        cases d with
        | str x => exact absurd rfl tx
        | _ => rfl
      rw [ns] at k
      exact k _ (Same.refl _)
    obtain ⟨x, rfl⟩ : ∃ x, d = .str x := by
      cases d with
      | str x => exact ⟨x, rfl⟩
      | _ => exact absurd tx (by simp [tyD])
    cases hd
    refine iteF ?_
    refine ⟨_, rfl, x, rfl, hz x rfl, _, _, rfl, rfl, _, rfl, ?_⟩
    by_cases l1 : (1 : Int) ≤ (x.length : Nat)
    case neg =>
      rw [decide_eq_false l1]
      refine iteF ?_
      refine ⟨_, rfl, ?_⟩
      refine iteT ?_
      have ns : wordD (.str x) = false := by
        show (decide _ && _ && _) = false
        rw [decide_eq_false l1, Bool.false_and, Bool.false_and]
      rw [ns] at k
      exact k _ (Same.refl _)
    rw [decide_eq_true l1]
    refine iteT ?_
    refine ⟨_, _, rfl, rfl, _, rfl, ?_⟩
    by_cases l8 : ((x.length : Nat) : Int) ≤ 8
    case neg =>
      rw [decide_eq_false l8]
      refine iteT ?_
      have ns : wordD (.str x) = false := by
        show (_ && decide _ && _) = false
        rw [decide_eq_false l8, Bool.and_false, Bool.false_and]
      rw [ns] at k
      exact k _ (Same.refl _)
    rw [decide_eq_true l8]
    refine iteF ?_
    have es : wordD (.str x) = x.cps.toList.all signB := by
      show (decide _ && decide _ && _) = _
      rw [decide_eq_true l1, decide_eq_true l8]
      rfl
    rw [es] at k
    -- all([sign in SIGNS for sign in thing])
    refine ⟨_, rfl, x, rfl, fun D nD => ?_⟩
    have sD : ∀ {H' : Hp} {o : HO}, Same H H' → Same H (upd H' D o) := fun z b o e => by
      rw [upd_ne (ne_of_none e nD)]
      exact z _ _ e
    have hlen : x.cps.toList.length ≤ 8 := by
      have : x.length = x.cps.toList.length := by simp [Str.length]
      omega
    refine lc_it (walk_str (z := x)) (fun i H' => Same H H' ∧ H' D = some (.lst ((x.cps.toList.take i).map fun c => V.bl (signB c)))) ⟨sD (Same.refl _), upd_same⟩ (fun _ _ _ _ => trivial) ?_ ?_
    · rintro i y H1 H1' hi ⟨z, e1⟩ ⟨rfl, c, ec, rfl⟩
      have ec' : x.cps.toList[i]? = some c := by simpa using ec
      refine ⟨rfl, ?_⟩
      refine ⟨_, rfl, c, signs, rfl, rfl, _, e1, ?_, sD z, ?_⟩
      · rw [List.length_map, List.length_take]
        exact small1000 (by omega)
      · rw [upd_same]
        show some (HO.lst (_ ++ [V.bl (signB c)])) = _
        rw [take_map_snoc (fun c => V.bl (signB c)) ec']
    · rintro H' ⟨z, e1⟩
      have e1' : H' D = some (.lst ((x.cps.toList.map signB).map V.bl)) := by
        rw [e1, List.take_of_length_le (by simp), List.map_map]
        rfl
      refine ⟨_, x.cps.toList.map signB, rfl, SqL.of e1', ?_⟩
      have ea : (x.cps.toList.map signB).all id = x.cps.toList.all signB := by
        rw [List.all_map]
        rfl
      rw [ea]
      exact k _ z
/-! ### names -/
def keyD : Key → PyData
  | .inl i => .int i
  | .inr x => .str x
theorem key_dp {k : Key} : Dp K H (kV k) (keyD k) := by
  cases k with
  | inl i => exact .int i
  | inr x => exact .str x
/-- what may be given for names: a datum that is no dict, or a dict with keys that are numbers or texts -/
inductive NmAt (K : PySem.W.Frag) (H : Hp) : V → Option (List (Key × PyData)) → Prop
  | no {v : V} {d : PyData} (h : Dp K H v d) : NmAt K H v none
  | dct {a : Addr} {kvs : List (Key × V)} {l : List (Key × PyData)} (e : H a = some (.dK kvs)) (hk : l.map Prod.fst = kvs.map Prod.fst) (h : DpAll K H (kvs.map Prod.snd) (l.map Prod.snd)) (hz : ∀ q ∈ l, ∀ x, keyD q.1 = .str x → x.length ≤ sizeLine) : NmAt K H (.ref a) (some l)
def nameB (q : Key × PyData) : Bool := wordD (keyD q.1) && sortD q.2
def namesD : Option (List (Key × PyData)) → Bool
  | none => false
  | some l => !decide (4 < l.length) && l.all nameB
theorem dp_of {H' : Hp} (f : ∀ a xs, SqL K H a xs → SqL K H' a xs) (g : ∀ a xs, SqT K H a xs → SqT K H' a xs) : (∀ {d : PyData} {v : V}, Dp K H v d → Dp K H' v d) ∧ ∀ {ds : List PyData} {vs : List V}, DpAll K H vs ds → DpAll K H' vs ds := by
  have main : ∀ n : Nat, (∀ {d : PyData} {v : V}, sizeOf d ≤ n → Dp K H v d → Dp K H' v d) ∧ ∀ {ds : List PyData} {vs : List V}, sizeOf ds ≤ n → DpAll K H vs ds → DpAll K H' vs ds := by
    intro n
    induction n with
    | zero => exact ⟨fun {d v} h => by cases d <;> simp at h, fun {ds vs} h => by cases ds <;> simp at h⟩
    | succ n ih =>
      refine ⟨fun {d v} h q => ?_, fun {ds vs} h q => ?_⟩
      · cases q with
        | non => exact .non
        | bl b => exact .bl b
        | int i => exact .int i
        | str x => exact .str x
        | lst hs ha => exact .lst (f _ _ hs) (ih.2 (by simp at h; omega) ha)
        | tup hs ha => exact .tup (g _ _ hs) (ih.2 (by simp at h; omega) ha)
      · cases q with
        | nil => exact .nil
        | cons hd ht => exact .cons (ih.1 (by simp at h; omega) hd) (ih.2 (by simp at h; omega) ht)
  exact ⟨fun {d v} h => (main _).1 (Nat.le_refl _) h, fun {ds vs} h => (main _).2 (Nat.le_refl _) h⟩
/-- the dict at a locked: lists and tuples stand elsewhere -/
theorem dps_lock {a : Addr} {kvs : List (Key × V)} {o : HO} (e : H a = some (.dK kvs)) {ds : List PyData} {vs : List V} (h : DpAll K H vs ds) : DpAll K (upd H a o) vs ds := by
  refine (dp_of (fun b xs q => ?_) (fun b xs q => ?_)).2 h
  · rcases q with (q | ⟨u, q⟩) | q
    · exact .inl (.inl (by rw [upd_ne (ne_of q e (by intro z; cases z))]; exact q))
    · exact .inl (.inr ⟨u, by rw [upd_ne (ne_of q e (by intro z; cases z))]; exact q⟩)
    · exact .inr q
  · rcases q with (q | ⟨u, q⟩) | q
    · exact .inl (.inl (by rw [upd_ne (ne_of q e (by intro z; cases z))]; exact q))
    · exact .inl (.inr ⟨u, by rw [upd_ne (ne_of q e (by intro z; cases z))]; exact q⟩)
    · exact .inr q
theorem nm_ty {v : V} {o : Option (List (Key × PyData))} (h : NmAt K H v o) : ∃ t, TyX K H v (.type t) ∧ PySem.W.kitOne K (.type t) (.type "dict") = some o.isSome := by
  cases h with
  | @no v d h =>
    refine ⟨_, dp_ty h, ?_⟩
    cases h <;> rfl
  | dct e _ _ _ => exact ⟨"dict", .base (.dK e), rfl⟩
theorem scNames : FnScope ["thing", "word", "sort"] ["thing"] (defScope sNames) := ⟨rfl, rfl, rfl, by decide +kernel, rfl, by decide +kernel, by decide +kernel⟩
def spNames (K : PySem.W.Frag) : Sp := fun vs H Q _ => ∃ (v : V) (o : Option (List (Key × PyData))), vs = [v] ∧ NmAt K H v o ∧ ∀ H', Same H H' → Q (.bl (namesD o)) H'
theorem ok_names {f fW fS aP : Addr} {fd fdW fdS : FuncData} (F : Fun K "is_names" "is_names" sNames f fd) (T : Top K mg aP) (GW : FnOk P w K mg base CX0 1 fW fdW ["thing"] (spWord K)) (kW : PySem.W.keepIn K (.ref fW) = true) (bW : Binds K fdW ["thing"] []) (mW : mg "is_word" = some (.ref fW))
    (GS : FnOk P w K mg base CX0 2 fS fdS ["thing"] (spSort K)) (kS : PySem.W.keepIn K (.ref fS) = true) (bS : Binds K fdS ["thing"] []) (mS : mg "is_sort" = some (.ref fS)) : FnOk P w K mg base CX0 3 f fd ["thing"] (spNames K) := by
  refine F.ok scNames (fun vs H Q E h => ?_) (fun cdv A outer s H vs Q E hr h => ?_)
  · obtain ⟨v, o, rfl, _⟩ := h
    rfl
  · obtain ⟨v, o, rfl, hd, k⟩ := h
    have nd := scNames.nd
    have hr1 := hr.mono (show 1 ≤ 2 by decide)
    obtain ⟨tM, mM⟩ := T.mM
    refine ⟨_, pss_cons (ps_if (PW.pt (pw_or (pt_not (pt_val (pe_callB call_isi (by rfl) T.isi (by decide +kernel) (pa_cons (pv 0) (pa_cons (pe_bltn (v := V.ty "dict") (by rfl) T.tDict (by decide +kernel) rfl) pa_nil)))))
          (pw_or1 (pt_cmpR op_gt (pe_callB call_lenD (by rfl) T.len PySem.boot_len (pa_cons (pv 0) pa_nil)) (pe_glob (v := V.int 4) (by rfl) mM ⟨tM, rfl⟩) (nomark _))))) (pss_one (ps_ret pe_bl)) pss_nil)
      (pss_one (ps_lock (ps_ret (pe_callB (cr_all rfl) (by rfl) T.all (by decide +kernel) (pa_cons
            (pe_lc (own := [("word", 1), ("sort", 2)]) (g := gTup K 2 (gCons (gName 1) (gCons (gName 2) gNil))) rfl nd (pi_items (pv 0)) (blkOk_by (N := ["thing", "word", "sort"]) (sc := defScope sNames) (by decide +kernel))
              (fun _ _ _ _ _ => pg_tup (by rfl) (pgs_cons (pg_name (i := 1) nd rfl (Or.inl rfl)) (pgs_cons (pg_name (i := 2) nd rfl (Or.inl rfl)) pgs_nil))) (fun _ _ _ _ _ => pts_nil)
              (fun _ _ _ _ _ => pe_and (pe_call GW hr1 rfl mW kW bW .nil pass0 (pa_cons (pv 1) pa_nil)) (pe_one (pe_call GS hr rfl mS kS bS .nil pass0 (pa_cons (pv 2) pa_nil))))) pa_nil))))), ?_⟩
    obtain ⟨t, ht, hkit⟩ := nm_ty hd
    refine ⟨_, rfl, _, .ty "dict", _, _, _, rfl, .ty "dict", ht, hkit, _, rfl, ?_⟩
    cases hd with
    | no h =>
      refine iteT ?_
      exact k _ (Same.refl _)
    | @dct a kvs l e hk h hz =>
      refine iteF ?_
      have ll : kvs.length = l.length := by
        have := congrArg List.length hk
        simpa using this.symm
      refine ⟨_, rfl, a, kvs, rfl, e, _, _, rfl, rfl, _, rfl, ?_⟩
      have e4 : decide ((4 : Int) < (kvs.length : Nat)) = decide (4 < l.length) := by
        rw [ll, decide_eq_decide]
        omega
      rw [e4]
      by_cases big : 4 < l.length
      · rw [decide_eq_true big]
        refine iteT ?_
        have ns : namesD (some l) = false := by simp [namesD, big]
        rw [ns] at k
        exact k _ (Same.refl _)
      rw [decide_eq_false big]
      refine iteF ?_
      have es : namesD (some l) = l.all nameB := by
        show (!decide (4 < l.length) && _) = _
        rw [decide_eq_false big]
        rfl
      rw [es] at k
      -- all([is_word(word) and is_sort(sort) for word, sort in thing.items()])
      refine ⟨a, _, e, trivial, fun od => ?_⟩
      have hL := dps_lock (o := .frz od (.dK kvs)) e h
      have eL : (upd H a (.frz od (.dK kvs))) a = some (.frz od (.dK kvs)) := upd_same
      have back : ∀ {H' : Hp}, Same (upd H a (.frz od (.dK kvs))) H' → Same H (upd H' a (.dK kvs)) := fun {H'} z b o q => by
        by_cases ba : b = a
        · subst ba
          rw [upd_same, ← e, q]
        · rw [upd_ne ba]
          exact z _ _ (by rw [upd_ne ba]; exact q)
      generalize upd H a (.frz od (.dK kvs)) = H1 at hL eL back ⊢
      refine ⟨_, rfl, a, od, kvs, rfl, eL, fun D nD => ?_⟩
      have sD : ∀ {H' : Hp} {o : HO}, Same H1 H' → Same H1 (upd H' D o) := fun z b o e => by
        rw [upd_ne (ne_of_none e nD)]
        exact z _ _ e
      refine lc_it (walk_items (d := a) (o := od) (kvs := kvs)) (fun i H' => Same H1 H' ∧ H' D = some (.lst ((l.take i).map fun q => V.bl (nameB q)))) ⟨sD (Same.refl _), upd_same⟩ (fun i H' _ ⟨z, _⟩ => z _ _ eL) ?_ ?_
      · rintro i y H2 H2' hi ⟨z, e1⟩ ⟨N, x, yv, rfl, nN, rfl, ex, ey⟩
        obtain ⟨kv, ekv⟩ : ∃ kv, kvs[i]? = some kv := ⟨_, List.getElem?_eq_getElem hi⟩
        obtain ⟨q, eq⟩ : ∃ q, l[i]? = some q := ⟨_, List.getElem?_eq_getElem (by rw [← ll]; exact hi)⟩
        have k1 : q.1 = kv.1 := by
          have z1 : (l.map Prod.fst)[i]? = some q.1 := by rw [List.getElem?_map, eq]; rfl
          have z2 : (kvs.map Prod.fst)[i]? = some kv.1 := by rw [List.getElem?_map, ekv]; rfl
          rw [hk, z2] at z1
          exact (Option.some.inj z1).symm
        have ex : (kvs[i]?.map fun kv => kV kv.1) = some x := ex
        have ey : kvs[i]?.map Prod.snd = some yv := ey
        rw [ekv] at ex ey
        obtain rfl := Option.some.inj ex
        obtain rfl := Option.some.inj ey
        have sN : Same H1 (upd H2 N (.tup [kV kv.1, kv.2])) := fun b o e => by
          rw [upd_ne (ne_of_none (z _ _ e) nN)]
          exact z _ _ e
        have eD : (upd H2 N (.tup [kV kv.1, kv.2])) D = some (.lst ((l.take i).map fun q => V.bl (nameB q))) := by
          rw [upd_ne (ne_of_none e1 nN)]
          exact e1
        have hT : (upd H2 N (.tup [kV kv.1, kv.2])) N = some (.tup [kV kv.1, kv.2]) := upd_same
        generalize upd H2 N (.tup [kV kv.1, kv.2]) = H3 at sN eD hT ⊢
        have keep : ∀ {H4 : Hp}, Same H3 H4 → H4 D = some (.lst ((l.take i).map fun q => V.bl (nameB q))) := fun s => s _ _ eD
        have small : ((l.take i).map fun q => V.bl (nameB q)).length < sizeLine := by
          rw [List.length_map, List.length_take]
          exact small1000 (by omega)
        have step : ∀ {H4 : Hp}, Same H3 H4 → ∀ b, b = nameB q → (∃ acc, H4 D = some (.lst acc) ∧ acc.length < sizeLine ∧ Same H1 (upd H4 D (.lst (acc ++ [V.bl b]))) ∧ (upd H4 D (.lst (acc ++ [V.bl b]))) D = some (.lst ((l.take (i + 1)).map fun q => V.bl (nameB q)))) := by
          rintro H4 s b rfl
          refine ⟨_, keep s, small, sD (sN.trans s), ?_⟩
          rw [upd_same, take_map_snoc (fun q => V.bl (nameB q)) eq]
        obtain ⟨d2, ed2, hd2⟩ := dps_get hL (i := i) (v := kv.2) (by rw [List.getElem?_map, ekv]; rfl)
        have q2 : d2 = q.2 := by
          rw [List.getElem?_map, eq] at ed2
          exact (Option.some.inj ed2).symm
        subst q2
        refine ⟨N, _, rfl, SqT.of hT, rfl, _, _, rfl, _, _, rfl, rfl, ?_⟩
        refine ⟨rfl, ?_⟩
        refine ⟨_, rfl, kV kv.1, keyD kv.1, rfl, key_dp, ?_, fun H4 s4 => ⟨_, rfl, ?_⟩⟩
        · rw [← k1]
          exact hz q (List.mem_of_getElem? eq)
        have en : nameB q = (wordD (keyD kv.1) && sortD q.2) := by rw [← k1]; rfl
        by_cases wd : wordD (keyD kv.1) = true
        · rw [wd]
          refine iteT ?_
          refine ⟨_, rfl, kv.2, q.2, rfl, dp_same (sN.trans s4) hd2, fun H5 s5 => ?_⟩
          exact step (s4.trans s5) _ (by rw [en, wd]; rfl)
        · rw [Bool.eq_false_iff.mpr wd]
          refine iteF ?_
          exact step s4 _ (by rw [en, Bool.eq_false_iff.mpr wd]; rfl)
      · rintro H' ⟨z, e1⟩
        have e1' : H' D = some (.lst ((l.map nameB).map V.bl)) := by
          rw [e1, List.take_of_length_le (Nat.le_of_eq ll.symm), List.map_map]
          rfl
        refine ⟨_, l.map nameB, rfl, SqL.of e1', z _ _ eL, ?_⟩
        have ea : (l.map nameB).all id = l.all nameB := by
          rw [List.all_map]
          rfl
        rw [ea]
        exact k _ (back z)
end
end Jd
/-! The checking defs of kinds.py and sorts.py: what they raise. -/
namespace Jd
open PySem PySem.Spec PyProof.Rows L2
abbrev sChkSize : Stmt := top 12
abbrev sChkNames : Stmt := top 21
theorem scChkSize : FnScope ["size"] ["size"] (defScope sChkSize) := ⟨rfl, rfl, rfl, by decide +kernel, rfl, by decide +kernel, by decide +kernel⟩
theorem scChkNames : FnScope ["names"] ["names"] (defScope sChkNames) := ⟨rfl, rfl, rfl, by decide +kernel, rfl, by decide +kernel, by decide +kernel⟩
/-- the errors that are raised -/
structure Errs (P : Program) (K : PySem.W.Frag) (mg : Str → Option Value) (cN fI cS : Addr) : Prop where
  mN : mg "BadNumber" = some (.ref cN)
  tN : Er.ErrTxt P K mg cN fI "part"
  mS : mg "BadSort" = some (.ref cS)
  xS : PySem.W.excIn K cS [.type "ValueError", .type "Exception", .type "BaseException", .type "object"] "ValueError.__new__" = true
  kS : PySem.W.keepIn K (.ref cS) = true
  bS : PySem.W.subIn K (.ref cS) (.type "BaseException") = some true
  tS : PySem.W.typeIn K (.ref cS) = some (.type "type")
section
variable {P : Program} {w : World} {K : PySem.W.Frag} {mg : Str → Option Value} {base : Heap} {H : Hp} {cN fI cS : Addr}
/-- check_size: nothing, or BadNumber("size") -/
def spChkSize (K : PySem.W.Frag) (cN : Addr) : Sp := fun vs H Q E => ∃ (v : V) (d : PyData), vs = [v] ∧ Dp K H v d ∧ (withinD 2 4 d = true → Q .non H) ∧ (withinD 2 4 d = false → ∀ x, H x = none → E (.ref cN) (some x) (upd H x (.xd [(("part" : Str), .str "size")])))
theorem ok_chkSize {f fW : Addr} {fd fdW : FuncData} (F : Fun K "check_size" "check_size" sChkSize f fd) (T : Errs P K mg cN fI cS) (GW : FnOk P w K mg base CX0 2 fW fdW ["thing", "least", "most"] (spWithin K)) (kW : PySem.W.keepIn K (.ref fW) = true) (bW : Binds K fdW ["thing", "least", "most"] [])
    (mW : mg "is_within" = some (.ref fW)) : FnOk P w K mg base (L2.CX P w) 3 f fd ["size"] (spChkSize K cN) := by
  refine F.okX scChkSize (fun vs H Q E h => ?_) (fun cdv A outer s H vs Q E hr h => ?_)
  · obtain ⟨v, d, rfl, _⟩ := h
    rfl
  · obtain ⟨v, d, rfl, hd, k1, k2⟩ := h
    refine ⟨_, pss_one (ps_if (pt_not (pt_val (pe_call GW hr rfl mW kW bW .nil pass0 (pa_cons (pv 0) (pa_cons pe_int (pa_cons pe_int pa_nil)))))) (pss_one (ps_raise rfl (takes_of rfl rfl rfl rfl) (pmk_err T.tN hr (by rfl) T.mN pe_str))) pss_nil), ?_⟩
    refine ⟨_, rfl, v, d, 2, 4, rfl, hd, _, rfl, ?_⟩
    by_cases e : withinD 2 4 d = true
    · rw [e]
      refine iteF ?_
      exact k1 e
    · rw [Bool.eq_false_iff.mpr e]
      refine iteT ?_
      exact k2 (Bool.eq_false_iff.mpr e)
/-- check_names: nothing, or BadSort -/
def spChkNames (K : PySem.W.Frag) (cS : Addr) : Sp := fun vs H Q E => ∃ (v : V) (o : Option (List (Key × PyData))), vs = [v] ∧ NmAt K H v o ∧ (namesD o = true → ∀ H', Same H H' → Q .non H') ∧ (namesD o = false → ∀ H', Same H H' → E (.ref cS) none H')
theorem ok_chkNames {f fM : Addr} {fd fdM : FuncData} (F : Fun K "check_names" "check_names" sChkNames f fd) (T : Errs P K mg cN fI cS) (GM : FnOk P w K mg base CX0 3 fM fdM ["thing"] (spNames K)) (kM : PySem.W.keepIn K (.ref fM) = true) (bM : Binds K fdM ["thing"] [])
    (mM : mg "is_names" = some (.ref fM)) : FnOk P w K mg base (L2.CX P w) 4 f fd ["names"] (spChkNames K cS) := by
  refine F.okX scChkNames (fun vs H Q E h => ?_) (fun cdv A outer s H vs Q E hr h => ?_)
  · obtain ⟨v, o, rfl, _⟩ := h
    rfl
  · obtain ⟨v, o, rfl, hd, k1, k2⟩ := h
    refine ⟨_, pss_one (ps_if (pt_not (pt_val (pe_call GM hr rfl mM kM bM .nil pass0 (pa_cons (pv 0) pa_nil)))) (pss_one (ps_raise rfl (takes_of rfl rfl rfl rfl) (pmk_own PySem.F.excBase_ValueError T.xS T.mS T.kS (raises_own T.bS T.tS) (by rfl)))) pss_nil), ?_⟩
    refine ⟨_, rfl, v, o, rfl, hd, fun H' s => ⟨_, rfl, ?_⟩⟩
    by_cases e : namesD o = true
    · rw [e]
      refine iteF ?_
      exact k1 e _ s
    · rw [Bool.eq_false_iff.mpr e]
      refine iteT ?_
      exact k2 (Bool.eq_false_iff.mpr e) _ s
end
end Jd
/-! The defs of shapes.py and terms.py, over values that are read as data. -/
namespace Jd
open PySem PySem.Spec PyProof.Rows L2
abbrev sPaths : Stmt := top 27
abbrev sGivenWord : Stmt := top 28
abbrev sThing : Stmt := top 41
abbrev sIsWanted : Stmt := top 43
theorem scThing : FnScope ["size", "wanted", "thing"] ["size", "wanted", "thing"] (defScope sThing) := ⟨rfl, rfl, rfl, by decide +kernel, rfl, by decide +kernel, by decide +kernel⟩
theorem scGivenWord : FnScope ["term", "number"] ["term", "number"] (defScope sGivenWord) := ⟨rfl, rfl, rfl, by decide +kernel, rfl, by decide +kernel, by decide +kernel⟩
theorem scPaths : FnScope ["term", "at"] ["term"] (defScope sPaths) := ⟨rfl, rfl, rfl, by decide +kernel, rfl, by decide +kernel, by decide +kernel⟩
section
variable {P : Program} {w : World} {K : PySem.W.Frag} {mg : Str → Option Value} {base : Heap} {H : Hp} {aP : Addr}
def endD : PyData → Bool
  | .str x => inV (.str x) [.str "num", .str "do"]
  | _ => false
/-- a thing of a term that is no term -/
def thingD (n : Int) (wd : Str) (d : PyData) : Bool := if wd = "figure" then withinD 0 (n - 1) d else if wd = "word" then wordD d else if wd = "ending" then endD d else true
def spThing (K : PySem.W.Frag) : Sp := fun vs H Q _ => ∃ (n : Int) (wd : Str) (v : V) (d : PyData), vs = [.int n, .str wd, v] ∧ Dp K H v d ∧ (∀ x, d = .str x → x.length ≤ sizeLine) ∧ ∀ H', Same H H' → Q (.bl (thingD n wd d)) H'
theorem ok_thing {f fN fW : Addr} {fd fdN fdW : FuncData} (F : Fun K "_is_thing" "_is_thing" sThing f fd) (T : Top K mg aP) (GN : FnOk P w K mg base CX0 2 fN fdN ["thing", "least", "most"] (spWithin K)) (kN : PySem.W.keepIn K (.ref fN) = true) (bN : Binds K fdN ["thing", "least", "most"] []) (mN : mg "is_within" = some (.ref fN))
    (GW : FnOk P w K mg base CX0 1 fW fdW ["thing"] (spWord K)) (kW : PySem.W.keepIn K (.ref fW) = true) (bW : Binds K fdW ["thing"] []) (mW : mg "is_word" = some (.ref fW)) : FnOk P w K mg base CX0 3 f fd ["size", "wanted", "thing"] (spThing K) := by
  refine F.ok scThing (fun vs H Q E h => ?_) (fun cdv A outer s H vs Q E hr h => ?_)
  · obtain ⟨n, wd, v, d, rfl, _⟩ := h
    rfl
  · obtain ⟨n, wd, v, d, rfl, hd, hz, k⟩ := h
    have hr1 := hr.mono (show 1 ≤ 2 by decide)
    refine ⟨_, pss_cons (ps_if (pt_cmpR op_eq (pv 1) pe_str (nomark _)) (pss_one (ps_ret (pe_call GN hr rfl mN kN bN .nil pass0 (pa_cons (pv 2) (pa_cons pe_int (pa_cons (pe_op op_sub (pv 0) pe_int) pa_nil)))))) pss_nil)
      (pss_cons (ps_if (pt_cmpR op_eq (pv 1) pe_str (nomark _)) (pss_one (ps_ret (pe_call GW hr1 rfl mW kW bW .nil pass0 (pa_cons (pv 2) pa_nil)))) pss_nil)
      (pss_cons (ps_if (pt_cmpR op_eq (pv 1) pe_str (nomark _)) (pss_one (ps_ret (pe_and (pe_callB call_isi (by rfl) T.isi (by decide +kernel) (pa_cons (pv 2) (pa_cons (pe_bltn (v := V.ty "str") (by rfl) T.tStr (by decide +kernel) rfl) pa_nil)))
        (pe_one (pe_cmpR op_in_seq (pv 2) (pe_tup (pa_cons pe_str (pa_cons pe_str pa_nil))) (by rfl)))))) pss_nil)
      (pss_one (ps_ret pe_bl)))), ?_⟩
    refine ⟨_, rfl, rfl, _, rfl, ?_⟩
    rw [dec_str]
    by_cases e1 : wd = "figure"
    · subst e1
      refine ⟨v, rfl, _, rfl, _, _, rfl, rfl, v, d, 0, n - 1, rfl, hd, ?_⟩
      exact k _ (Same.refl _)
    rw [beq_false_of_ne e1]
    refine iteF ?_
    refine ⟨_, rfl, rfl, _, rfl, ?_⟩
    rw [dec_str]
    by_cases e2 : wd = "word"
    · subst e2
      exact ⟨v, rfl, v, d, rfl, hd, hz, k⟩
    rw [beq_false_of_ne e2]
    refine iteF ?_
    refine ⟨_, rfl, rfl, _, rfl, ?_⟩
    rw [dec_str]
    by_cases e3 : wd = "ending"
    · subst e3
      refine isi rfl hd (kit_str d) ⟨_, rfl, ?_⟩
      have ek : thingD n "ending" d = endD d := rfl
      rw [ek] at k
      cases d with
      | str x =>
        cases hd
        refine ⟨_, rfl, by show 2 ≤ sizeLine; decide, fun q nq => ?_⟩
        refine ⟨q, _, rfl, .inr (SqT.of upd_same), rfl, rfl, ?_⟩
        exact k _ fun b o e => by rw [upd_ne (ne_of_none e nq)]; exact e
      | _ => exact k _ (Same.refl _)
    rw [beq_false_of_ne e3]
    refine iteF ?_
    have ek : thingD n wd d = true := by
      unfold thingD
      rw [if_neg e1, if_neg e2, if_neg e3]
    rw [ek] at k
    exact k _ (Same.refl _)
end
end Jd
/-! The defs of terms.py that look names up. -/
namespace Jd
open PySem PySem.Spec PyProof.Rows L2
abbrev sUse : Stmt := top 40
theorem scUse : FnScope ["names", "term"] ["names", "term"] (defScope sUse) := ⟨rfl, rfl, rfl, by decide +kernel, rfl, by decide +kernel, by decide +kernel⟩
/-- names: word, what it takes, what it gives -/
abbrev NmL := List (Str × (List PyData × Str))
def sortOf (q : Str × (List PyData × Str)) : PyData := .tuple [.tuple q.2.1, .str q.2.2]
/-- the dict at a holds these names -/
def NmD (K : PySem.W.Frag) (H : Hp) (a : Addr) (l : NmL) : Prop := ∃ kvs : List (Key × V), H a = some (.dK kvs) ∧ kvs.map Prod.fst = l.map (fun q => (.inr q.1 : Key)) ∧ DpAll K H (kvs.map Prod.snd) (l.map sortOf)
section
variable {P : Program} {w : World} {K : PySem.W.Frag} {mg : Str → Option Value} {base : Heap} {H : Hp} {aP : Addr}
theorem NmD.same {H' : Hp} {a : Addr} {l : NmL} (n : NmD K H a l) (s : Same H H') : NmD K H' a l := by
  obtain ⟨kvs, e, h1, h2⟩ := n
  exact ⟨kvs, s _ _ e, h1, dps_same s h2⟩
theorem val_look (x : Str) : ∀ {kvs : List (Key × V)} {l : NmL}, kvs.map Prod.fst = l.map (fun q => (.inr q.1 : Key)) → DpAll K H (kvs.map Prod.snd) (l.map sortOf) →
    (l.lookup x = none ∧ valV kvs (.inr x) = none) ∨ ∃ ts g v, l.lookup x = some (ts, g) ∧ valV kvs (.inr x) = some v ∧ Dp K H v (.tuple [.tuple ts, .str g])
  | [], [], _, _ => .inl ⟨rfl, rfl⟩
  | [], _ :: _, h, _ => by cases h
  | _ :: _, [], h, _ => by cases h
  | (k, v) :: kvs, (y, ts, g) :: l, h, d => by
    obtain ⟨h1, h2⟩ := List.cons.inj h
    have h1 : k = .inr y := h1
    subst h1
    have d : DpAll K H (v :: kvs.map Prod.snd) (sortOf (y, ts, g) :: l.map sortOf) := d
    obtain _ | ⟨d1, d2⟩ := d
    by_cases e : x = y
    · subst e
      refine .inr ⟨ts, g, v, by simp [List.lookup], by simp [valV], d1⟩
    · have b : (x == y) = false := beq_false_of_ne e
      have st : valV (((.inr y : Key), v) :: kvs) (.inr x) = valV kvs (.inr x) := by
        unfold valV
        rw [List.find?_cons, show decide ((((.inr y : Key), v) : Key × V).1 = .inr x) = false from by simp [Ne.symm e]]
      rcases val_look x h2 d2 with ⟨a1, a2⟩ | ⟨ts', g', v', a1, a2, a3⟩
      · exact .inl ⟨by simp [List.lookup, b, a1], st.trans a2⟩
      · exact .inr ⟨ts', g', v', by simp [List.lookup, b, a1], st.trans a2, a3⟩
/-- a use of a name: ("name", word, args) -/
def useD (l : NmL) : List PyData → Bool
  | [_, .str x, .tuple as] => wordD (.str x) && (match l.lookup x with | some (ts, _) => as.length == ts.length | none => false)
  | _ => false
theorem word_str {d : PyData} (h : wordD d = true) : ∃ x, d = .str x := by
  cases d with
  | str x => exact ⟨x, rfl⟩
  | _ => cases h
def spUse (K : PySem.W.Frag) : Sp := fun vs H Q _ => ∃ (a t : Addr) (l : NmL) (xs : List V) (ds : List PyData), vs = [.ref a, .ref t] ∧ NmD K H a l ∧ SqT K H t xs ∧ DpAll K H xs ds ∧ (∀ x, ds[1]? = some (.str x) → x.length ≤ sizeLine) ∧ ∀ H', Same H H' → Q (.bl (useD l ds)) H'
theorem ok_use {f fW : Addr} {fd fdW : FuncData} (F : Fun K "_is_use" "_is_use" sUse f fd) (T : Top K mg aP) (GW : FnOk P w K mg base CX0 1 fW fdW ["thing"] (spWord K)) (kW : PySem.W.keepIn K (.ref fW) = true) (bW : Binds K fdW ["thing"] []) (mW : mg "is_word" = some (.ref fW)) :
    FnOk P w K mg base CX0 2 f fd ["names", "term"] (spUse K) := by
  refine F.ok scUse (fun vs H Q E h => ?_) (fun cdv A outer s H vs Q E hr h => ?_)
  · obtain ⟨a, t, l, xs, ds, rfl, _⟩ := h
    rfl
  · obtain ⟨a, t, l, xs, ds, rfl, hn, ht, hd, hz, k⟩ := h
    have hu := hu_of hr
    refine ⟨_, pss_cons (ps_if (PW.pt (pw_or (pt_cmpR op_ne (pe_callB call_len_seq (by rfl) T.len PySem.boot_len (pa_cons (pv 1) pa_nil)) pe_int (nomark _))
        (pw_or (pt_not (pt_val (pe_call GW hr rfl mW kW bW .nil pass0 (pa_cons (pe_ix ix_tup (pv 1) pe_int (fun _ _ => rfl)) pa_nil)))) (pw_or1 (pt_cmp (pc_dnotin hu (pe_ix ix_tup (pv 1) pe_int (fun _ _ => rfl)) (pv 0))))))) (pss_one (ps_ret pe_bl)) pss_nil)
      (pss_one (ps_ret (pe_and (pe_callB call_isi (by rfl) T.isi (by decide +kernel) (pa_cons (pe_ix ix_tup (pv 1) pe_int (fun _ _ => rfl)) (pa_cons (pe_bltn (v := V.ty "tuple") (by rfl) T.tTup (by decide +kernel) rfl) pa_nil)))
        (pe_one (pe_cmpR op_eq (pe_callB call_len_seq (by rfl) T.len PySem.boot_len (pa_cons (pe_ix ix_tup (pv 1) pe_int (fun _ _ => rfl)) pa_nil))
          (pe_callB call_len_seq (by rfl) T.len PySem.boot_len (pa_cons (pe_ix ix_tup (pe_dget hu (pv 0) (pe_ix ix_tup (pv 1) pe_int (fun _ _ => rfl)) (fun _ _ => rfl)) pe_int (fun _ _ => rfl)) pa_nil)) (nomark _)))))), ?_⟩
    have ll := dps_len hd
    refine ⟨_, rfl, t, xs, rfl, .inr ht, rfl, _, rfl, ?_⟩
    have e3 : decide (V.int ((xs.length : Nat) : Int) = V.int 3) = decide (ds.length = 3) := by
      rw [← ll, dec_int, Bool.eq_iff_iff]
      simp
      omega
    rw [e3]
    by_cases l3 : ds.length = 3
    case neg =>
      rw [decide_eq_false l3]
      refine iteT ?_
      refine iteT ?_
      have ns : useD l ds = false := by
        match ds, l3 with
        | [], _ => simp [useD]
        | [_], _ => simp [useD]
        | [_, _], _ => simp [useD]
        | [_, _, _], h => exact absurd rfl h
        | _ :: _ :: _ :: _ :: _, _ => simp [useD]
      rw [ns] at k
      exact k _ (Same.refl _)
    rw [decide_eq_true l3]
    refine iteF ?_
    obtain ⟨d0, d1, d2, rfl⟩ : ∃ d0 d1 d2, ds = [d0, d1, d2] := by
      match ds, l3 with
      | [d0, d1, d2], _ => exact ⟨d0, d1, d2, rfl⟩
    obtain _ | @⟨x0, _, _, _, h0, hd⟩ := hd
    obtain _ | @⟨x1, _, _, _, h1, hd⟩ := hd
    obtain _ | @⟨x2, _, _, _, h2, hd⟩ := hd
    cases hd
    refine ⟨_, rfl, t, _, 1, x1, rfl, rfl, ht, atI_nat (j := 1) rfl, x1, d1, rfl, h1, fun x e => hz x (by rw [e]; rfl), fun H' s' => ⟨_, rfl, ?_⟩⟩
    by_cases wd : wordD d1 = true
    case neg =>
      rw [Bool.eq_false_iff.mpr wd]
      refine iteT ?_
      refine iteT ?_
      have ns : useD l [d0, d1, d2] = false := by
        cases d1 with
        | str x =>
          cases d2 with
          | tuple as =>
            show (wordD (.str x) && _) = false
            rw [Bool.eq_false_iff.mpr wd, Bool.false_and]
          | _ => rfl
        | _ => rfl
      rw [ns] at k
      exact k _ s'
    rw [wd]
    refine iteF ?_
    obtain ⟨x, rfl⟩ := word_str wd
    cases h1
    have ht' := sqT_same s' ht
    obtain ⟨kvs, ek, hk, hv⟩ := hn.same s'
    refine ⟨_, rfl, t, _, 1, _, rfl, rfl, ht', atI_nat (j := 1) rfl, _, rfl, a, valV kvs (.inr x), rfl, DGet.k (k := (.inr x : Key)) ek, _, rfl, ?_⟩
    rcases val_look x hk hv with ⟨a1, a2⟩ | ⟨ts, g, v, a1, a2, a3⟩
    · rw [a2]
      refine iteT ?_
      have ns : useD l [d0, .str x, d2] = false := by
        cases d2 with
        | tuple as =>
          show (wordD (.str x) && _) = false
          rw [a1, wd]
          rfl
        | _ => rfl
      rw [ns] at k
      exact k _ s'
    rw [a2]
    refine iteF ?_
    refine ⟨_, rfl, t, _, 2, x2, rfl, rfl, ht', atI_nat (j := 2) rfl, x2, .ty "tuple", _, _, _, rfl, .ty "tuple", dp_ty (dp_same s' h2), kit_tuple d2, _, rfl, ?_⟩
    by_cases tx : tyD d2 = "tuple"
    case neg =>
      rw [decide_eq_false tx]
      refine iteF ?_
      have ns : useD l [d0, .str x, d2] = false := by
        cases d2 with
        | tuple as => exact absurd rfl tx
        | _ => rfl
      rw [ns] at k
      exact k _ s'
    obtain ⟨as, rfl⟩ : ∃ as, d2 = .tuple as := by
      cases d2 with
      | tuple as => exact ⟨as, rfl⟩
      | _ => exact absurd tx (by simp [tyD])
    refine iteT ?_
    obtain ⟨⟩ | ⟨⟩ | ⟨⟩ | ⟨⟩ | ⟨⟩ | @⟨b, ys, _, hb, hs⟩ := dp_same s' h2
    obtain ⟨⟩ | ⟨⟩ | ⟨⟩ | ⟨⟩ | ⟨⟩ | @⟨b2, zs, _, hb2, hs2⟩ := a3
    obtain _ | @⟨z0, _, _, _, g0, hs2⟩ := hs2
    obtain _ | @⟨z1, _, _, _, g1, hs2⟩ := hs2
    cases hs2
    obtain ⟨⟩ | ⟨⟩ | ⟨⟩ | ⟨⟩ | ⟨⟩ | @⟨b3, ws, _, hb3, hs3⟩ := g0
    refine ⟨_, rfl, t, _, 2, _, rfl, rfl, ht', atI_nat (j := 2) rfl, b, ys, rfl, .inr hb, ?_⟩
    refine ⟨_, rfl, _, rfl, t, _, 1, _, rfl, rfl, ht', atI_nat (j := 1) rfl, a, .ref b2, rfl, ?_, b2, _, 0, _, rfl, rfl, hb2, atI_nat (j := 0) rfl, b3, ws, rfl, .inr hb3, rfl, ?_⟩
    · rw [← a2]
      exact DGet.k (k := (.inr x : Key)) ek
    have en : useD l [d0, .str x, .tuple as] = decide (V.int ((ys.length : Nat) : Int) = V.int ((ws.length : Nat) : Int)) := by
      show (wordD (.str x) && (match l.lookup x with | some (ts, _) => as.length == ts.length | none => false)) = _
      rw [wd, a1, dec_int]
      show (true && (as.length == ts.length)) = _
      rw [← dps_len hs, ← dps_len hs3, Bool.true_and, Bool.eq_iff_iff, beq_iff_eq, beq_iff_eq]
      omega
    rw [en] at k
    exact k _ s'
end
end Jd
/-! _has_form of terms.py. -/
namespace Jd
open PySem PySem.Spec PyProof.Rows L2 RZ
abbrev sHasForm : Stmt := top 39
theorem scHasForm : FnScope ["size", "names", "term", "form", "wanted", "thing"] ["size", "names", "term"] (defScope sHasForm) := ⟨rfl, rfl, rfl, by decide +kernel, rfl, by decide +kernel, by decide +kernel⟩
/-- what stands behind a word -/
def forms : List (Str × List Str) :=
  [("number", ["figure"]), ("skip", []), ("never", ["ending"]), ("sum", ["num", "num"]), ("less", ["num", "num"]), ("same", ["num", "num"]), ("below", ["num", "num"]), ("not", ["num"]), ("then", ["do", "some"]), ("if", ["num", "some", "alike"]),
   ("while", ["num", "do"]), ("get", ["box"]), ("set", ["box", "num"]), ("new", ["word", "figure", "some"]), ("made", ["num", "word", "do"]), ("claim", ["num"])]
theorem forms_name : forms.lookup ("name" : Str) = none := by decide +kernel
theorem forms_len : ∀ q ∈ forms, q.2.length ≤ 3 := by decide +kernel
/-- what the top has written of FORMS -/
structure FormTop (K : PySem.W.Frag) (w : World) (mg : Str → Option Value) (dF : Addr) (es : Array DictEntry) (n : Nat) : Prop where
  mF : mg "FORMS" = some (.ref dF)
  kd : KDict K w dF es n
  at_ : ∀ z, (forms.lookup z = none ∧ PySem.W.nsIn K dF z = some none) ∨ ∃ ws a, forms.lookup z = some ws ∧ PySem.W.nsIn K dF z = some (some (.ref a)) ∧ ∀ H : Hp, SqT K H a (ws.map V.str)
  zip : mg "zip" = none
def formD (n : Int) (l : NmL) : PyData → Bool
  | .tuple (.str x :: ds) => if x = "name" then useD l (.str x :: ds) else match forms.lookup x with
    | none => false
    | some ws => ds.length == ws.length && (ws.zip ds).all fun p => thingD n p.1 p.2
  | _ => false
section
variable {P : Program} {w : World} {K : PySem.W.Frag} {mg : Str → Option Value} {base : Heap} {H : Hp} {aP dF : Addr} {es : Array DictEntry} {nF : Nat}
theorem walk_zipT {a b : Addr} {xs ys : List V} {n : Nat} (hn : n = min xs.length ys.length) : Walk (ItzT K a b) n (fun H => SqT K H a xs ∧ SqT K H b ys) (YPair (fun i => xs[i]?) (fun i => ys[i]?)) := by
  refine ⟨fun i H hi ⟨h1, h2⟩ => ⟨xs, ys, xs[i]'(by omega), ys[i]'(by omega), h1, h2, List.getElem?_eq_getElem _, List.getElem?_eq_getElem _⟩, fun H ⟨h1, h2⟩ => ⟨xs, ys, h1, h2, by omega⟩,
    fun i H v H' hi ⟨h1, h2⟩ ⟨T, x, y, ev, nT, eH, e1, e2⟩ => ⟨T, x, y, ev, nT, eH, e1 _ h1, e2 _ h2⟩⟩
theorem sIx_one {n : Nat} : HT.sIx (n + 1) 0 (some 1) = 1 := by
  unfold HT.sIx
  simp
  try omega
theorem sIx_none {n k : Nat} : HT.sIx n k none = k := rfl
theorem cut_one {v : V} {xs : List V} : cutV (v :: xs) (some 1) none = xs := by
  unfold cutV
  rw [List.length_cons, sIx_one, sIx_none]
  simp
def spForm (K : PySem.W.Frag) : Sp := fun vs H Q _ => ∃ (n : Int) (a : Addr) (l : NmL) (v : V) (d : PyData), vs = [.int n, .ref a, v] ∧ NmD K H a l ∧ Dp K H v d ∧ (∀ ds, d = .tuple ds → ∀ x, .str x ∈ ds → x.length ≤ sizeLine) ∧ ∀ H', Same H H' → Q (.bl (formD n l d)) H'
theorem ok_form {f fU fT : Addr} {fd fdU fdT : FuncData} (F : Fun K "_has_form" "_has_form" sHasForm f fd) (T : Top K mg aP) (TF : FormTop K w mg dF es nF) (GU : FnOk P w K mg base CX0 2 fU fdU ["names", "term"] (spUse K)) (kU : PySem.W.keepIn K (.ref fU) = true) (bU : Binds K fdU ["names", "term"] []) (mU : mg "_is_use" = some (.ref fU))
    (GT : FnOk P w K mg base CX0 3 fT fdT ["size", "wanted", "thing"] (spThing K)) (kT : PySem.W.keepIn K (.ref fT) = true) (bT : Binds K fdT ["size", "wanted", "thing"] []) (mT : mg "_is_thing" = some (.ref fT)) : FnOk P w K mg base CX0 4 f fd ["size", "names", "term"] (spForm K) := by
  refine F.ok scHasForm (fun vs H Q E h => ?_) (fun cdv A outer s H vs Q E hr h => ?_)
  · obtain ⟨n, a, l, v, d, rfl, _⟩ := h
    rfl
  · obtain ⟨n, a, l, v, d, rfl, hn, hd, hz, k⟩ := h
    have nd := scHasForm.nd
    have hr2 := hr.mono (show 2 ≤ 3 by decide)
    refine ⟨_, pss_cons (ps_if (PW.pt (pw_or (pt_not (pt_val (pe_callB call_isi (by rfl) T.isi (by decide +kernel) (pa_cons (pv 2) (pa_cons (pe_bltn (v := V.ty "tuple") (by rfl) T.tTup (by decide +kernel) rfl) pa_nil)))))
        (pw_or (pt_cmpR op_eq (pe_callB call_len_seq (by rfl) T.len PySem.boot_len (pa_cons (pv 2) pa_nil)) pe_int (nomark _))
        (pw_or1 (pt_not (pt_val (pe_callB call_isi (by rfl) T.isi (by decide +kernel) (pa_cons (pe_ix ix_tup (pv 2) pe_int (fun _ _ => rfl)) (pa_cons (pe_bltn (v := V.ty "str") (by rfl) T.tStr (by decide +kernel) rfl) pa_nil))))))))) (pss_one (ps_ret pe_bl)) pss_nil)
      (pss_cons (ps_if (pt_cmpR op_eq (pe_ix ix_tup (pv 2) pe_int (fun _ _ => rfl)) pe_str (nomark _)) (pss_one (ps_ret (pe_call GU hr2 rfl mU kU bU .nil pass0 (pa_cons (pv 1) (pa_cons (pv 2) pa_nil))))) pss_nil)
      (pss_cons (ps_if (pt_cmpR (op_notIn_kd TF.kd) (pe_ix ix_tup (pv 2) pe_int (fun _ _ => rfl)) (pe_glob (v := V.ref dF) (by rfl) TF.mF rfl) (by rfl)) (pss_one (ps_ret pe_bl)) pss_nil)
      (pss_cons (ps_set (i := 3) nd rfl (Or.inl rfl) (pe_ix ix_kdict (pe_glob (v := V.ref dF) (by rfl) TF.mF rfl) (pe_ix ix_tup (pv 2) pe_int (fun _ _ => rfl)) (fun _ _ => rfl)))
      (pss_cons (ps_if (pt_cmpR op_ne (pe_callB call_len_seq (by rfl) T.len PySem.boot_len (pa_cons (pv 2) pa_nil)) (pe_op op_add (pe_callB call_len_seq (by rfl) T.len PySem.boot_len (pa_cons (pv 3) pa_nil)) pe_int) (nomark _)) (pss_one (ps_ret pe_bl)) pss_nil)
      (pss_one (ps_ret (pe_callB (cr_all rfl) (by rfl) T.all (by decide +kernel) (pa_cons
        (pe_lc (own := [("wanted", 4), ("thing", 5)]) (g := gTup K 2 (gCons (gName 4) (gCons (gName 5) gNil))) rfl nd (pi_zipA (by rfl) TF.zip (pa_cons (pv 3) (pa_cons (pe_slice sl_tup (pv 2) (po_some pe_int) po_none) pa_nil)))
          (blkOk_by (N := ["size", "names", "term", "form", "wanted", "thing"]) (sc := defScope sHasForm) (by decide +kernel))
          (fun _ _ _ _ _ => pg_tup (by rfl) (pgs_cons (pg_name (i := 4) nd rfl (Or.inl rfl)) (pgs_cons (pg_name (i := 5) nd rfl (Or.inl rfl)) pgs_nil))) (fun _ _ _ _ _ => pts_nil)
          (fun _ _ _ _ _ => pe_call GT hr rfl mT kT bT .nil pass0 (pa_cons (pv 0) (pa_cons (pv 4) (pa_cons (pv 5) pa_nil))))) pa_nil)))))))), ?_⟩
    refine isi rfl hd (kit_tuple d) ⟨_, rfl, ?_⟩
    by_cases tx : tyD d = "tuple"
    case neg =>
      rw [decide_eq_false tx]
      refine iteT ?_
      refine iteT ?_
      have ns : formD n l d = false := by
        cases d with
        | tuple ds => exact absurd rfl tx
        | _ => rfl
      rw [ns] at k
      exact k _ (Same.refl _)
    obtain ⟨ds, rfl⟩ : ∃ ds, d = .tuple ds := by
      cases d with
      | tuple ds => exact ⟨ds, rfl⟩
      | _ => exact absurd tx (by simp [tyD])
    refine iteF ?_
    obtain ⟨⟩ | ⟨⟩ | ⟨⟩ | ⟨⟩ | ⟨⟩ | @⟨t, xs, _, ht, hs⟩ := hd
    have ll := dps_len hs
    refine ⟨_, rfl, t, xs, rfl, .inr ht, rfl, _, rfl, ?_⟩
    cases hs with
    | nil =>
      refine iteT ?_
      refine iteT ?_
      exact k _ (Same.refl _)
    | @cons x0 xs d0 ds h0 hs =>
    have e0 : decide (V.int (((x0 :: xs).length : Nat) : Int) = V.int 0) = false := by
      rw [dec_int, beq_eq_false_iff_ne]
      simp
      omega
    rw [e0]
    refine iteF ?_
    refine ⟨_, rfl, t, _, 0, x0, rfl, rfl, ht, atI_nat (j := 0) rfl, x0, .ty "str", _, _, _, rfl, .ty "str", dp_ty h0, kit_str d0, _, rfl, ?_⟩
    by_cases ts : tyD d0 = "str"
    case neg =>
      rw [decide_eq_false ts]
      refine iteT ?_
      have ns : formD n l (.tuple (d0 :: ds)) = false := by
        cases d0 with
        | str x => exact absurd rfl ts
        | _ => simp [formD]
      rw [ns] at k
      exact k _ (Same.refl _)
    obtain ⟨x, rfl⟩ : ∃ x, d0 = .str x := by
      cases d0 with
      | str x => exact ⟨x, rfl⟩
      | _ => exact absurd ts (by simp [tyD])
    cases h0
    refine iteF ?_
    -- term[0] == 'name'
    refine ⟨_, rfl, t, _, 0, _, rfl, rfl, ht, atI_nat (j := 0) rfl, rfl, _, rfl, ?_⟩
    rw [dec_str]
    by_cases en : x = "name"
    · subst en
      refine ⟨_, rfl, _, rfl, a, t, l, _, _, rfl, hn, ht, .cons (.str _) hs, fun y e => ?_, ?_⟩
      · exact hz _ rfl y (List.mem_of_getElem? e)
      · exact k
    rw [beq_false_of_ne en]
    refine iteF ?_
    rcases TF.at_ x with ⟨fx, ex⟩ | ⟨ws, af, fx, ex, hw⟩
    · refine ⟨_, rfl, t, _, 0, _, rfl, rfl, ht, atI_nat (j := 0) rfl, x, _, rfl, rfl, ex, _, rfl, ?_⟩
      refine iteT ?_
      have ns : formD n l (.tuple (.str x :: ds)) = false := by
        simp only [formD]
        rw [if_neg en, fx]
      rw [ns] at k
      exact k _ (Same.refl _)
    refine ⟨_, rfl, t, _, 0, _, rfl, rfl, ht, atI_nat (j := 0) rfl, x, _, rfl, rfl, ex, _, rfl, ?_⟩
    refine iteF ?_
    refine ⟨_, rfl, t, _, 0, _, rfl, rfl, ht, atI_nat (j := 0) rfl, dF, x, .ref af, rfl, rfl, ⟨es, nF, .ref af, TF.kd.at_, TF.kd.lit, ex, rfl⟩, ?_⟩
    have es0 : formD n l (.tuple (.str x :: ds)) = (ds.length == ws.length && (ws.zip ds).all fun p => thingD n p.1 p.2) := by
      simp only [formD]
      rw [if_neg en, fx]
    rw [es0] at k
    refine ⟨_, rfl, t, _, rfl, .inr ht, _, rfl, af, ws.map V.str, rfl, .inr (hw H), _, _, rfl, rfl, rfl, _, rfl, ?_⟩
    have el : (!decide (V.int (((V.str x :: xs).length : Nat) : Int) = V.int (((ws.map V.str).length : Nat) + 1))) = !(ds.length == ws.length) := by
      have ll' : xs.length = ds.length := by simpa using ll
      rw [dec_int, List.length_cons, List.length_map, ll']
      congr 1
      rw [Bool.eq_iff_iff, beq_iff_eq, beq_iff_eq]
      omega
    rw [el]
    by_cases lw : ds.length = ws.length
    case neg =>
      rw [beq_false_of_ne lw]
      refine iteT ?_
      rw [beq_false_of_ne lw, Bool.false_and] at k
      exact k _ (Same.refl _)
    have bw : (ds.length == ws.length) = true := beq_iff_eq.mpr lw
    rw [bw]
    rw [bw, Bool.true_and] at k
    refine iteF ?_
    -- all([.. for wanted, thing in zip(form, term[1:])])
    refine ⟨_, rfl, _, rfl, 1, rfl, t, _, rfl, ht, ?_, fun p np => ?_⟩
    · rw [List.length_cons, sIx_one]
      exact fun z => by cases z.1
    rw [cut_one]
    have s1 : Same H (upd H p (.tup xs)) := fun b o e => by rw [upd_ne (ne_of_none e np)]; exact e
    have hp : (upd H p (.tup xs)) p = some (.tup xs) := upd_same
    generalize upd H p (.tup xs) = H1 at s1 hp ⊢
    refine ⟨af, p, _, _, rfl, .inr ⟨hw H1, SqT.of hp, fun D nD => ?_⟩⟩
    have hs1 : DpAll K H1 xs ds := dps_same s1 hs
    have ll' : xs.length = ds.length := by simpa using ll
    have sD : ∀ {H' : Hp} {o : HO}, Same H1 H' → Same H1 (upd H' D o) := fun z b o e => by
      rw [upd_ne (ne_of_none e nD)]
      exact z _ _ e
    have hl3 := forms_len _ (PySem.mem_of_lookup fx)
    have hl3 : ws.length ≤ 3 := hl3
    refine lc_it (walk_zipT (K := K) (a := af) (b := p) (xs := ws.map V.str) (ys := xs) (n := ds.length) (by rw [List.length_map, ll', ← lw, Nat.min_self])) (fun i H' => Same H1 H' ∧ H' D = some (.lst (((ws.zip ds).take i).map fun q => V.bl (thingD n q.1 q.2))))
      ⟨sD (Same.refl _), upd_same⟩ (fun i H' _ ⟨z, _⟩ => ⟨hw _, SqT.of (z _ _ hp)⟩) ?_ ?_
    · rintro i y H2 H2' hi ⟨z, e1⟩ ⟨N, x', yv, rfl, nN, rfl, ex', ey⟩
      have ex' : (ws.map V.str)[i]? = some x' := ex'
      have ey : xs[i]? = some yv := ey
      rw [List.getElem?_map] at ex'
      obtain ⟨wd, ew⟩ : ∃ wd, ws[i]? = some wd := ⟨_, List.getElem?_eq_getElem (by rw [← lw]; exact hi)⟩
      rw [ew] at ex'
      obtain rfl := Option.some.inj ex'
      obtain ⟨d, ed, dd⟩ := dps_get hs1 ey
      have eq : (ws.zip ds)[i]? = some (wd, d) := List.getElem?_zip_eq_some.mpr ⟨ew, ed⟩
      have sN : Same H1 (upd H2 N (.tup [V.str wd, yv])) := fun b o e => by
        rw [upd_ne (ne_of_none (z _ _ e) nN)]
        exact z _ _ e
      have eD : (upd H2 N (.tup [V.str wd, yv])) D = some (.lst (((ws.zip ds).take i).map fun q => V.bl (thingD n q.1 q.2))) := by
        rw [upd_ne (ne_of_none e1 nN)]
        exact e1
      have hT : (upd H2 N (.tup [V.str wd, yv])) N = some (.tup [V.str wd, yv]) := upd_same
      generalize upd H2 N (.tup [V.str wd, yv]) = H3 at sN eD hT ⊢
      refine ⟨N, _, rfl, SqT.of hT, rfl, _, _, rfl, _, _, rfl, rfl, ?_⟩
      refine ⟨rfl, ?_⟩
      refine ⟨_, rfl, _, rfl, _, rfl, n, wd, yv, d, rfl, dp_same sN dd, fun u e => ?_, fun H4 s4 => ⟨_, s4 _ _ eD, ?_, sD (sN.trans s4), ?_⟩⟩
      · subst e
        exact hz _ rfl u (List.mem_cons_of_mem _ (List.mem_of_getElem? ed))
      · rw [List.length_map, List.length_take]
        have : (ws.zip ds).length ≤ 3 := by rw [List.length_zip]; omega
        exact small1000 (by omega)
      · rw [upd_same, take_map_snoc (fun q : Str × PyData => V.bl (thingD n q.1 q.2)) eq]
    · rintro H' ⟨z, e1⟩
      have e1' : H' D = some (.lst (((ws.zip ds).map fun q => thingD n q.1 q.2).map V.bl)) := by
        rw [e1, List.take_of_length_le (by rw [List.length_zip]; omega), List.map_map]
        rfl
      refine ⟨_, (ws.zip ds).map fun q => thingD n q.1 q.2, rfl, SqL.of e1', ?_⟩
      have ea : ((ws.zip ds).map fun q => thingD n q.1 q.2).all id = (ws.zip ds).all fun q => thingD n q.1 q.2 := by
        rw [List.all_map]
        rfl
      rw [ea]
      exact k _ (s1.trans z)
end
end Jd
/-! The smaller defs round _sort_at. -/
namespace Jd
open PySem PySem.Spec PyProof.Rows L2 RZ
abbrev sWantedSorts : Stmt := top 42
abbrev sSortGiven : Stmt := top 44
theorem scIsWanted : FnScope ["sort", "wanted", "ahead"] ["sort", "wanted", "ahead"] (defScope sIsWanted) := ⟨rfl, rfl, rfl, by decide +kernel, rfl, by decide +kernel, by decide +kernel⟩
theorem scWantedSorts : FnScope ["names", "term", "wanted"] ["names", "term"] (defScope sWantedSorts) := ⟨rfl, rfl, rfl, by decide +kernel, rfl, by decide +kernel, by decide +kernel⟩
theorem scSortGiven : FnScope ["names", "term", "sorts"] ["names", "term", "sorts"] (defScope sSortGiven) := ⟨rfl, rfl, rfl, by decide +kernel, rfl, by decide +kernel, by decide +kernel⟩
section
variable {P : Program} {w : World} {K : PySem.W.Frag} {mg : Str → Option Value} {base : Heap} {H : Hp} {aP dF : Addr} {es : Array DictEntry} {nF : Nat}
def isWantedD (s wd : Str) (ahead : List Str) : Bool := if wd = "some" then inV (.str s) [.str "num", .str "do"] else if wd = "alike" then some s == ahead.getLast? else s == wd
def spIsWanted (K : PySem.W.Frag) : Sp := fun vs H Q _ => ∃ (s wd : Str) (a : Addr) (ahead : List Str), vs = [.str s, .str wd, .ref a] ∧ SqL K H a (ahead.map V.str) ∧ (wd = "alike" → ∃ m z, ahead = m ++ [z]) ∧ ∀ H', Same H H' → Q (.bl (isWantedD s wd ahead)) H'
theorem ok_isWanted {f : Addr} {fd : FuncData} (F : Fun K "_is_wanted" "_is_wanted" sIsWanted f fd) : FnOk P w K mg base CX0 1 f fd ["sort", "wanted", "ahead"] (spIsWanted K) := by
  refine F.ok scIsWanted (fun vs H Q E h => ?_) (fun cdv A outer s H vs Q E hr h => ?_)
  · obtain ⟨n, wd, a, ah, rfl, _⟩ := h
    rfl
  · obtain ⟨so, wd, a, ah, rfl, hl, hn, k⟩ := h
    refine ⟨_, pss_cons (ps_if (pt_cmpR op_eq (pv 1) pe_str (nomark _)) (pss_one (ps_ret (pe_cmpR op_in_seq (pv 0) (pe_tup (pa_cons pe_str (pa_cons pe_str pa_nil))) (by rfl)))) pss_nil)
      (pss_cons (ps_if (pt_cmpR op_eq (pv 1) pe_str (nomark _)) (pss_one (ps_ret (pe_cmpR op_eq (pv 0) (pe_ix ix_list (pv 2) (pe_un un_neg pe_int) (fun _ _ => rfl)) (nomark _)))) pss_nil)
      (pss_one (ps_ret (pe_cmpR op_eq (pv 0) (pv 1) (nomark _))))), ?_⟩
    refine ⟨_, rfl, rfl, _, rfl, ?_⟩
    rw [dec_str]
    by_cases e1 : wd = "some"
    · subst e1
      refine ⟨_, rfl, by show 2 ≤ sizeLine; decide, fun q nq => ?_⟩
      refine ⟨q, _, rfl, .inr (SqT.of upd_same), rfl, rfl, ?_⟩
      exact k _ fun b o e => by rw [upd_ne (ne_of_none e nq)]; exact e
    rw [beq_false_of_ne e1]
    refine iteF ?_
    refine ⟨_, rfl, rfl, _, rfl, ?_⟩
    rw [dec_str]
    by_cases e2 : wd = "alike"
    · subst e2
      obtain ⟨m, z, rfl⟩ := hn rfl
      refine ⟨_, rfl, _, rfl, _, rfl, a, _, -1, .str z, rfl, rfl, hl, by rw [List.map_append]; exact atI_last _ _, rfl, ?_⟩
      have e : isWantedD so "alike" (m ++ [z]) = decide (V.str so = V.str z) := by
        show (if ("alike" : Str) = "some" then _ else if ("alike" : Str) = "alike" then some so == (m ++ [z]).getLast? else _) = _
        rw [if_neg e1, if_pos rfl, List.getLast?_concat, dec_str]
        rfl
      rw [e] at k
      exact k _ (Same.refl _)
    rw [beq_false_of_ne e2]
    refine iteF ?_
    refine ⟨_, rfl, _, rfl, rfl, ?_⟩
    have e : isWantedD so wd ah = decide (V.str so = V.str wd) := by
      unfold isWantedD
      rw [if_neg e1, if_neg e2, dec_str]
    rw [e] at k
    exact k _ (Same.refl _)
/-! ### what a term gives -/
def givens : List (Str × Str) := [("number", "num"), ("skip", "do"), ("sum", "num"), ("less", "num"), ("same", "num"), ("below", "num"), ("not", "num"), ("while", "do"), ("get", "num"), ("set", "do"), ("made", "box"), ("claim", "do")]
structure GivenTop (K : PySem.W.Frag) (w : World) (mg : Str → Option Value) (dG : Addr) (es : Array DictEntry) (n : Nat) : Prop where
  mG : mg "GIVEN" = some (.ref dG)
  kd : KDict K w dG es n
  at_ : ∀ z, (givens.lookup z = none ∧ PySem.W.nsIn K dG z = some none) ∨ ∃ g t, givens.lookup z = some g ∧ PySem.W.nsIn K dG z = some (some (.str g t))
def givenD (l : NmL) (sorts : List Str) : List PyData → Option Str
  | .str x :: ds => if x = "name" then (match ds with | .str y :: _ => (l.lookup y).map (·.2) | _ => none) else if x = "never" then (match ds with | .str g :: _ => some g | _ => none) else match givens.lookup x with
    | some g => some g
    | none => sorts.getLast?
  | _ => none
def spSortGiven (K : PySem.W.Frag) : Sp := fun vs H Q _ => ∃ (a t b : Addr) (l : NmL) (xs : List V) (ds : List PyData) (sorts : List Str) (g : Str), vs = [.ref a, .ref t, .ref b] ∧ NmD K H a l ∧ SqT K H t xs ∧ DpAll K H xs ds ∧ SqL K H b (sorts.map V.str) ∧ givenD l sorts ds = some g ∧ Q (.str g) H
theorem ok_sortGiven {f dG : Addr} {fd : FuncData} {eg : Array DictEntry} {nG : Nat} (F : Fun K "_sort_given" "_sort_given" sSortGiven f fd) (TG : GivenTop K w mg dG eg nG) : FnOk P w K mg base CX0 1 f fd ["names", "term", "sorts"] (spSortGiven K) := by
  refine F.ok scSortGiven (fun vs H Q E h => ?_) (fun cdv A outer s H vs Q E hr h => ?_)
  · obtain ⟨a, t, b, l, xs, ds, so, g, rfl, _⟩ := h
    rfl
  · obtain ⟨a, t, b, l, xs, ds, so, g, rfl, hn, ht, hs, hb, hg, k⟩ := h
    have hu := hu_of hr
    refine ⟨_, pss_cons (ps_if (pt_cmpR op_eq (pe_ix ix_tup (pv 1) pe_int (fun _ _ => rfl)) pe_str (nomark _)) (pss_one (ps_ret (pe_ix ix_tup (pe_dget hu (pv 0) (pe_ix ix_tup (pv 1) pe_int (fun _ _ => rfl)) (fun _ _ => rfl)) pe_int (fun _ _ => rfl)))) pss_nil)
      (pss_cons (ps_if (pt_cmpR op_eq (pe_ix ix_tup (pv 1) pe_int (fun _ _ => rfl)) pe_str (nomark _)) (pss_one (ps_ret (pe_ix ix_tup (pv 1) pe_int (fun _ _ => rfl)))) pss_nil)
      (pss_cons (ps_if (pt_cmpR (op_in_kd TG.kd) (pe_ix ix_tup (pv 1) pe_int (fun _ _ => rfl)) (pe_glob (v := V.ref dG) (by rfl) TG.mG rfl) (by rfl)) (pss_one (ps_ret (pe_ix ix_kdict (pe_glob (v := V.ref dG) (by rfl) TG.mG rfl) (pe_ix ix_tup (pv 1) pe_int (fun _ _ => rfl)) (fun _ _ => rfl)))) pss_nil)
      (pss_one (ps_ret (pe_ix ix_list (pv 2) (pe_un un_neg pe_int) (fun _ _ => rfl)))))), ?_⟩
    cases hs with
    | nil => cases hg
    | @cons x0 xs d0 ds h0 hs =>
    cases d0 with
    | str x =>
      cases h0
      refine ⟨_, rfl, t, _, 0, _, rfl, rfl, ht, atI_nat (j := 0) rfl, rfl, _, rfl, ?_⟩
      rw [dec_str]
      by_cases e1 : x = "name"
      · subst e1
        cases hs with
        | nil => cases hg
        | @cons x1 xs d1 ds h1 hs =>
        cases d1 with
        | str y =>
          cases h1
          have hg' : (l.lookup y).map (·.2) = some g := hg
          obtain ⟨kvs, ek, hk, hv⟩ := hn
          rcases val_look y hk hv with ⟨a1, _⟩ | ⟨ts, g', v, a1, a2, a3⟩
          · rw [a1] at hg'
            cases hg'
          rw [a1] at hg'
          obtain rfl : g' = g := Option.some.inj hg'
          obtain ⟨⟩ | ⟨⟩ | ⟨⟩ | ⟨⟩ | ⟨⟩ | @⟨b2, zs, _, hb2, hs2⟩ := a3
          obtain _ | @⟨z0, _, _, _, g0, hs2⟩ := hs2
          obtain _ | @⟨z1, _, _, _, g1, hs2⟩ := hs2
          cases hs2
          cases g1
          refine ⟨_, rfl, _, rfl, t, _, 1, _, rfl, rfl, ht, atI_nat (j := 1) rfl, a, .ref b2, rfl, ?_, b2, _, 1, _, rfl, rfl, hb2, atI_nat (j := 1) rfl, k⟩
          rw [← a2]
          exact DGet.k (k := (.inr y : Key)) ek
        | _ => cases hg
      rw [beq_false_of_ne e1]
      refine iteF ?_
      refine ⟨_, rfl, t, _, 0, _, rfl, rfl, ht, atI_nat (j := 0) rfl, rfl, _, rfl, ?_⟩
      rw [dec_str]
      by_cases e2 : x = "never"
      · subst e2
        cases hs with
        | nil => cases hg
        | @cons x1 xs d1 ds h1 hs =>
        cases d1 with
        | str y =>
          cases h1
          have hg' : some y = some g := hg
          obtain rfl := Option.some.inj hg'
          exact ⟨_, rfl, t, _, 1, _, rfl, rfl, ht, atI_nat (j := 1) rfl, k⟩
        | _ => cases hg
      rw [beq_false_of_ne e2]
      refine iteF ?_
      have hg' : (match givens.lookup x with | some g => some g | none => so.getLast?) = some g := by
        have z : givenD l so (.str x :: ds) = some g := hg
        simp only [givenD] at z
        rw [if_neg e1, if_neg e2] at z
        exact z
      rcases TG.at_ x with ⟨fx, ex⟩ | ⟨g2, tk, fx, ex⟩
      · refine ⟨_, rfl, t, _, 0, _, rfl, rfl, ht, atI_nat (j := 0) rfl, x, _, rfl, rfl, ex, _, rfl, ?_⟩
        refine iteF ?_
        rw [fx] at hg'
        obtain ⟨m, rfl⟩ : ∃ m, so = m ++ [g] := by
          have z : so.getLast? = some g := hg'
          obtain ⟨m, e⟩ := List.getLast?_eq_some_iff.mp z
          exact ⟨m, e⟩
        exact ⟨_, rfl, _, rfl, b, _, -1, .str g, rfl, rfl, hb, by rw [List.map_append]; exact atI_last _ _, k⟩
      · refine ⟨_, rfl, t, _, 0, _, rfl, rfl, ht, atI_nat (j := 0) rfl, x, _, rfl, rfl, ex, _, rfl, ?_⟩
        refine iteT ?_
        rw [fx] at hg'
        obtain rfl := Option.some.inj hg'
        exact ⟨_, rfl, t, _, 0, _, rfl, rfl, ht, atI_nat (j := 0) rfl, dG, x, .str g2, rfl, rfl, ⟨eg, nG, .str g2 tk, TG.kd.at_, TG.kd.lit, ex, ⟨tk, rfl⟩⟩, k⟩
    | _ => cases hg
end
end Jd
/-! What a term's parts are, and what is wanted of them. -/
namespace Jd
open PySem PySem.Spec PyProof.Rows L2 RZ
section
variable {P : Program} {w : World} {K : PySem.W.Frag} {mg : Str → Option Value} {base : Heap} {H : Hp} {aP dF dP : Addr} {es ep : Array DictEntry} {nF nP : Nat}
/-! ### _wanted_sorts -/
def noTerm : List V := [.str "figure", .str "word", .str "ending"]
def isTermB (x : Str) : Bool := !inV (.str x) noTerm
/-- a list of some of the items of another: those that have come so far -/
theorem filter_take {l : List Str} {i : Nat} {x : Str} (h : l[i]? = some x) : (l.take (i + 1)).filter isTermB = (l.take i).filter isTermB ++ (if isTermB x = true then [x] else []) := by
  rw [List.take_add_one, h, List.filter_append]
  show _ ++ List.filter isTermB [x] = _
  by_cases e : isTermB x = true
  · rw [if_pos e]
    simp [e]
  · rw [if_neg e]
    simp [e]
/-- what is wanted of the parts: the sorts that the name takes, or what stands behind the word -/
inductive WantAt (K : PySem.W.Frag) (H : Hp) (l : NmL) : List PyData → Addr → Prop
  | name {y : Str} {ds : List PyData} {ts : List PyData} {g : Str} {b : Addr} {zs : List V} (e : l.lookup y = some (ts, g)) (hb : SqT K H b zs) (hs : DpAll K H zs ts) : WantAt K H l (.str "name" :: .str y :: ds) b
  | word {x : Str} {ds : List PyData} {ws : List Str} {b : Addr} (n : x ≠ "name") (e : forms.lookup x = some ws) (hb : H b = some (.lst ((ws.filter isTermB).map V.str))) : WantAt K H l (.str x :: ds) b
/-- the term's word: a name that is used, or one of the forms -/
def wordOk (l : NmL) : List PyData → Prop
  | .str x :: ds => (x = "name" ∧ ∃ y r ts g, ds = .str y :: r ∧ l.lookup y = some (ts, g)) ∨ (x ≠ "name" ∧ ∃ ws, forms.lookup x = some ws)
  | _ => False
def spWantedSorts (K : PySem.W.Frag) : Sp := fun vs H Q _ => ∃ (a t : Addr) (l : NmL) (xs : List V) (ds : List PyData), vs = [.ref a, .ref t] ∧ NmD K H a l ∧ SqT K H t xs ∧ DpAll K H xs ds ∧ wordOk l ds ∧ ∀ b H', Same H H' → WantAt K H' l ds b → Q (.ref b) H'
theorem ok_wantedSorts {f : Addr} {fd : FuncData} (F : Fun K "_wanted_sorts" "_wanted_sorts" sWantedSorts f fd) (TF : FormTop K w mg dF es nF) : FnOk P w K mg base CX0 1 f fd ["names", "term"] (spWantedSorts K) := by
  refine F.ok scWantedSorts (fun vs H Q E h => ?_) (fun cdv A outer s H vs Q E hr h => ?_)
  · obtain ⟨a, t, l, xs, ds, rfl, _⟩ := h
    rfl
  · obtain ⟨a, t, l, xs, ds, rfl, hn, ht, hs, hw, k⟩ := h
    have nd := scWantedSorts.nd
    have hu := hu_of hr
    refine ⟨_, pss_cons (ps_if (pt_cmpR op_eq (pe_ix ix_tup (pv 1) pe_int (fun _ _ => rfl)) pe_str (nomark _)) (pss_one (ps_ret (pe_ix ix_tup (pe_dget hu (pv 0) (pe_ix ix_tup (pv 1) pe_int (fun _ _ => rfl)) (fun _ _ => rfl)) pe_int (fun _ _ => rfl)))) pss_nil)
      (pss_one (ps_ret (pe_lc (own := [("wanted", 2)]) (g := gName 2) rfl nd (pi_tup (pe_ix ix_kdict (pe_glob (v := V.ref dF) (by rfl) TF.mF rfl) (pe_ix ix_tup (pv 1) pe_int (fun _ _ => rfl)) (fun _ _ => rfl)))
        (blkOk_by (N := ["names", "term", "wanted"]) (sc := defScope sWantedSorts) (by decide +kernel)) (fun _ _ _ _ _ => pg_name (i := 2) nd rfl (Or.inl rfl))
        (fun _ _ _ _ _ => pts_one (pt_cmpR (show OpR _ _ (rIn K true) from op_notIn_seq) (pv 2) (pe_tup (pa_cons pe_str (pa_cons pe_str (pa_cons pe_str pa_nil)))) (by rfl))) (fun _ _ _ _ _ => pv 2)))), ?_⟩
    cases hs with
    | nil => exact hw.elim
    | @cons x0 xs d0 ds h0 hs =>
    cases d0 with
    | str x =>
      cases h0
      refine ⟨_, rfl, t, _, 0, _, rfl, rfl, ht, atI_nat (j := 0) rfl, rfl, _, rfl, ?_⟩
      rw [dec_str]
      rcases hw with ⟨rfl, y, r, ts, g, rfl, ey⟩ | ⟨nx, ws, ew⟩
      · obtain _ | @⟨x1, _, _, _, h1, hs⟩ := hs
        cases h1
        obtain ⟨kvs, ek, hk, hv⟩ := id hn
        rcases val_look y hk hv with ⟨a1, _⟩ | ⟨ts', g', v, a1, a2, a3⟩
        · rw [a1] at ey
          cases ey
        obtain ⟨⟩ | ⟨⟩ | ⟨⟩ | ⟨⟩ | ⟨⟩ | @⟨b2, zs, _, hb2, hs2⟩ := a3
        obtain _ | @⟨z0, _, _, _, g0, hs2⟩ := hs2
        obtain ⟨⟩ | ⟨⟩ | ⟨⟩ | ⟨⟩ | ⟨⟩ | @⟨b3, us, _, hb3, hs3⟩ := g0
        refine ⟨_, rfl, _, rfl, t, _, 1, _, rfl, rfl, ht, atI_nat (j := 1) rfl, a, .ref b2, rfl, ?_, b2, _, 0, _, rfl, rfl, hb2, atI_nat (j := 0) rfl, k _ _ (Same.refl _) (.name a1 hb3 hs3)⟩
        rw [← a2]
        exact DGet.k (k := (.inr y : Key)) ek
      · rw [beq_false_of_ne nx]
        refine iteF ?_
        rcases TF.at_ x with ⟨fx, _⟩ | ⟨ws', af, fx, ex, hwf⟩
        · rw [fx] at ew
          cases ew
        rw [fx] at ew
        obtain rfl := Option.some.inj ew
        refine ⟨_, rfl, t, _, 0, _, rfl, rfl, ht, atI_nat (j := 0) rfl, dF, x, .ref af, rfl, rfl, ⟨es, nF, .ref af, TF.kd.at_, TF.kd.lit, ex, rfl⟩, af, rfl, ⟨_, hwf H⟩, fun D nD => ?_⟩
        have sD : ∀ {H' : Hp} {o : HO}, Same H H' → Same H (upd H' D o) := fun z b o e => by
          rw [upd_ne (ne_of_none e nD)]
          exact z _ _ e
        have hl3 : ws'.length ≤ 3 := forms_len _ (PySem.mem_of_lookup fx)
        refine lc_tup (K := K) (a := af) (xs := ws'.map V.str) (fun i H' => Same H H' ∧ H' D = some (.lst (((ws'.take i).filter isTermB).map V.str))) ⟨sD (Same.refl _), upd_same⟩ (fun i H' _ _ => hwf H') ?_ ?_
        · rintro i y H' hy ⟨z, e1⟩
          rw [List.getElem?_map] at hy
          cases eu : ws'[i]? with
          | none => rw [eu] at hy; cases hy
          | some u =>
            rw [eu] at hy
            obtain rfl := Option.some.inj hy
            refine ⟨rfl, ?_⟩
            refine ⟨_, rfl, by show 3 ≤ sizeLine; decide, fun q nq => ?_⟩
            have s3 : Same H' (upd H' q (.tup noTerm)) := fun b o e => by rw [upd_ne (ne_of_none e nq)]; exact e
            have h3 : (upd H' q (.tup noTerm)) q = some (.tup noTerm) := upd_same
            have e3 := s3 _ _ e1
            show rIn K true (.str u) (.ref q) (upd H' q (.tup noTerm)) _
            generalize upd H' q (.tup noTerm) = H3 at s3 h3 e3 ⊢
            refine ⟨q, _, rfl, .inr (SqT.of h3), rfl, rfl, _, rfl, ?_⟩
            have ft := filter_take (l := ws') eu
            show if isTermB u = true then _ else _
            by_cases tu : isTermB u = true
            · rw [if_pos tu] at ft ⊢
              refine ⟨_, rfl, _, e3, ?_, sD (z.trans s3), ?_⟩
              · rw [List.length_map]
                refine small1000 (Nat.le_trans (List.length_filter_le _ _) ?_)
                rw [List.length_take]
                omega
              · rw [upd_same, ft, List.map_append]
                rfl
            · rw [if_neg tu] at ft ⊢
              refine ⟨z.trans s3, ?_⟩
              rw [ft, List.append_nil]
              exact e3
        · rintro H' ⟨z, e1⟩
          rw [List.length_map, List.take_length] at e1
          exact k _ _ z (.word nx fx e1)
    | _ => exact hw.elim
end
end Jd
/-! part_paths of shapes.py. -/
namespace Jd
open PySem PySem.Spec PyProof.Rows L2 RZ
def partsT : List (Str × List Int) :=
  [("number", []), ("skip", []), ("never", []), ("sum", [1, 2]), ("less", [1, 2]), ("same", [1, 2]), ("below", [1, 2]), ("not", [1]), ("then", [1, 2]), ("if", [1, 2, 3]), ("while", [1, 2]), ("get", [1]), ("set", [1, 2]), ("new", [3]), ("made", [1, 3]), ("claim", [1])]
theorem parts_len : ∀ q ∈ partsT, q.2.length ≤ 3 := by decide +kernel
structure PartTop (K : PySem.W.Frag) (w : World) (mg : Str → Option Value) (dP : Addr) (es : Array DictEntry) (n : Nat) : Prop where
  mP : mg "PARTS" = some (.ref dP)
  at_ : ∀ z ps, partsT.lookup z = some ps → ∃ a, KDct K w dP z (.ref a) ∧ ∀ H : Hp, SqT K H a (ps.map V.int)
  range : mg "range" = none
  len : mg "len" = none
/-- the ways to a term's parts -/
def pathsD : List PyData → Option (List (List Int))
  | .str x :: ds => if x = "name" then (match ds with | [_, .tuple as] => some ((List.range as.length).map fun i => [2, ((i : Nat) : Int)]) | _ => none) else (partsT.lookup x).map fun ps => ps.map fun i => [i]
  | _ => none
/-- a list of paths, each a tuple of numbers -/
def PathsAt (H : Hp) (D : Addr) (ps : List (List Int)) : Prop :=
  ∃ as : List Addr, H D = some (.lst (as.map V.ref)) ∧ as.length = ps.length ∧ ∀ (j : Nat) (a : Addr) (p : List Int), as[j]? = some a → ps[j]? = some p → H a = some (.tup (p.map V.int))
section
variable {P : Program} {w : World} {K : PySem.W.Frag} {mg : Str → Option Value} {base : Heap} {H : Hp} {dP : Addr} {ep : Array DictEntry} {nP : Nat}
theorem PathsAt.nil {D : Addr} (h : H D = some (.lst [])) : PathsAt H D [] := ⟨[], h, rfl, fun j a p e => by simp at e⟩
theorem PathsAt.snoc {D T : Addr} {ps : List (List Int)} {p : List Int} (h : PathsAt H D ps) (nT : H T = none) : ∃ acc, (upd H T (.tup (p.map V.int))) D = some (.lst acc) ∧ acc.length = ps.length ∧ PathsAt (upd (upd H T (.tup (p.map V.int))) D (.lst (acc ++ [.ref T]))) D (ps ++ [p]) := by
  obtain ⟨as, e, hl, ha⟩ := h
  have dT : D ≠ T := ne_of_none e nT
  refine ⟨as.map V.ref, by rw [upd_ne dT]; exact e, by rw [List.length_map]; exact hl, as ++ [T], by rw [upd_same, List.map_append]; rfl, by simp [hl], fun j a q h1 h2 => ?_⟩
  by_cases hj : j < as.length
  · rw [List.getElem?_append_left hj] at h1
    rw [List.getElem?_append_left (by rw [← hl]; exact hj)] at h2
    have z := ha j a q h1 h2
    rw [upd_ne (ne_of z e (by intro y; cases y)), upd_ne (ne_of_none z nT)]
    exact z
  · have ej : j = as.length := by
      have := (List.getElem?_eq_some_iff.mp h1).1
      simp at this
      omega
    subst ej
    have h1' : some T = some a := by simpa using h1
    have h2' : some p = some q := by rw [hl] at h2; simpa using h2
    cases h1'
    cases h2'
    rw [upd_ne dT.symm, upd_same]
theorem scPaths' : FnScope ["term", "at"] ["term"] (defScope sPaths) := scPaths
def spPaths (K : PySem.W.Frag) : Sp := fun vs H Q _ => ∃ (t : Addr) (xs : List V) (ds : List PyData) (ps : List (List Int)), vs = [.ref t] ∧ SqT K H t xs ∧ DpAll K H xs ds ∧ pathsD ds = some ps ∧ ps.length ≤ 1000 ∧ ∀ b H', Same H H' → PathsAt H' b ps → Q (.ref b) H'
theorem ok_paths {f : Addr} {fd : FuncData} (F : Fun K "part_paths" "part_paths" sPaths f fd) (TP : PartTop K w mg dP ep nP) : FnOk P w K mg base CX0 1 f fd ["term"] (spPaths K) := by
  refine F.ok scPaths (fun vs H Q E h => ?_) (fun cdv A outer s H vs Q E hr h => ?_)
  · obtain ⟨t, xs, ds, ps, rfl, _⟩ := h
    rfl
  · obtain ⟨t, xs, ds, ps, rfl, ht, hs, hp, hlen, k⟩ := h
    have nd := scPaths.nd
    refine ⟨_, pss_cons (ps_if (pt_cmpR op_eq (pe_ix ix_tup (pv 0) pe_int (fun _ _ => rfl)) pe_str (nomark _))
        (pss_one (ps_ret (pe_lc (own := [("at", 1)]) (g := gName 1) rfl nd (pi_range1 (by rfl) TP.range (pa_cons (pe_callB call_len_seq (by rfl) TP.len PySem.boot_len (pa_cons (pe_ix ix_tup (pv 0) pe_int (fun _ _ => rfl)) pa_nil)) pa_nil))
          (blkOk_by (N := ["term", "at"]) (sc := defScope sPaths) (by decide +kernel)) (fun _ _ _ _ _ => pg_name (i := 1) nd rfl (Or.inl rfl)) (fun _ _ _ _ _ => pts_nil) (fun _ _ _ _ _ => pe_tup (pa_cons pe_int (pa_cons (pv 1) pa_nil)))))) pss_nil)
      (pss_one (ps_ret (pe_lc (own := [("at", 1)]) (g := gName 1) rfl nd (pi_tup (pe_ix ix_kdict (pe_glob (v := V.ref dP) (by rfl) TP.mP rfl) (pe_ix ix_tup (pv 0) pe_int (fun _ _ => rfl)) (fun _ _ => rfl)))
        (blkOk_by (N := ["term", "at"]) (sc := defScope sPaths) (by decide +kernel)) (fun _ _ _ _ _ => pg_name (i := 1) nd rfl (Or.inl rfl)) (fun _ _ _ _ _ => pts_nil) (fun _ _ _ _ _ => pe_tup (pa_cons (pv 1) pa_nil))))), ?_⟩
    cases hs with
    | nil => cases hp
    | @cons x0 xs d0 ds h0 hs =>
    cases d0 with
    | str x =>
      cases h0
      refine ⟨_, rfl, t, _, 0, _, rfl, rfl, ht, atI_nat (j := 0) rfl, rfl, _, rfl, ?_⟩
      rw [dec_str]
      by_cases e1 : x = "name"
      · subst e1
        cases hs with
        | nil => cases hp
        | @cons x1 xs d1 ds h1 hs =>
        cases hs with
        | nil => cases hp
        | @cons x2 xs d2 ds h2 hs =>
        cases hs with
        | cons _ _ =>
          simp [pathsD] at hp
        | nil =>
        cases d2 with
        | tuple as =>
          obtain ⟨⟩ | ⟨⟩ | ⟨⟩ | ⟨⟩ | ⟨⟩ | @⟨b, ys, _, hb, hs2⟩ := h2
          have hp' : some ((List.range as.length).map fun i => [2, ((i : Nat) : Int)]) = some ps := hp
          obtain rfl := Option.some.inj hp'
          have ly := dps_len hs2
          have ln : as.length ≤ 1000 := by simpa using hlen
          refine ⟨_, rfl, t, _, 2, _, rfl, rfl, ht, atI_nat (j := 2) rfl, b, ys, rfl, .inr hb, ((ys.length : Nat) : Int), rfl, by omega, by omega, fun D nD => ?_⟩
          have sD : ∀ {H' : Hp} {o : HO}, Same H H' → Same H (upd H' D o) := fun z b o e => by
            rw [upd_ne (ne_of_none e nD)]
            exact z _ _ e
          refine lc_range (lo := 0) (n := ys.length) (fun i H' => Same H H' ∧ PathsAt H' D ((List.range i).map fun i => [2, ((i : Nat) : Int)])) ⟨sD (Same.refl _), PathsAt.nil upd_same⟩ ?_ ?_
          · rintro i H' hi ⟨z, pa⟩
            refine ⟨rfl, ?_⟩
            rw [Int.zero_add]
            refine ⟨_, rfl, by show 2 ≤ sizeLine; decide, fun N nN => ?_⟩
            obtain ⟨acc, ea, la, pn⟩ := pa.snoc (p := [2, ((i : Nat) : Int)]) nN
            refine ⟨acc, ea, ?_, sD fun b o e => by rw [upd_ne (ne_of_none (z _ _ e) nN)]; exact z _ _ e, ?_⟩
            · rw [la, List.length_map, List.length_range]
              exact small1000 (by omega)
            · rw [List.range_succ, List.map_append]
              exact pn
          · rintro H' ⟨z, pa⟩
            rw [ly] at pa
            exact k _ _ z pa
        | _ => simp [pathsD] at hp
      rw [beq_false_of_ne e1]
      refine iteF ?_
      have hp' : ((partsT.lookup x).map fun ps => ps.map fun i => [i]) = some ps := by
        have z : pathsD (.str x :: ds) = some ps := hp
        simp only [pathsD] at z
        rw [if_neg e1] at z
        exact z
      cases e0 : partsT.lookup x with
      | none => rw [e0] at hp'; cases hp'
      | some is =>
      rw [e0] at hp'
      obtain rfl := Option.some.inj hp'
      obtain ⟨ad, kd, hw⟩ := TP.at_ x is e0
      have hl3 : is.length ≤ 3 := parts_len _ (PySem.mem_of_lookup e0)
      refine ⟨_, rfl, t, _, 0, _, rfl, rfl, ht, atI_nat (j := 0) rfl, dP, x, .ref ad, rfl, rfl, kd, ad, rfl, ⟨_, hw H⟩, fun D nD => ?_⟩
      have sD : ∀ {H' : Hp} {o : HO}, Same H H' → Same H (upd H' D o) := fun z b o e => by
        rw [upd_ne (ne_of_none e nD)]
        exact z _ _ e
      refine lc_tup (K := K) (a := ad) (xs := is.map V.int) (fun i H' => Same H H' ∧ PathsAt H' D ((is.take i).map fun i => [i])) ⟨sD (Same.refl _), PathsAt.nil upd_same⟩ (fun i H' _ _ => hw H') ?_ ?_
      · rintro i y H' hy ⟨z, pa⟩
        rw [List.getElem?_map] at hy
        cases eu : is[i]? with
        | none => rw [eu] at hy; cases hy
        | some u =>
          rw [eu] at hy
          obtain rfl := Option.some.inj hy
          refine ⟨rfl, ?_⟩
          refine ⟨_, rfl, by show 1 ≤ sizeLine; decide, fun N nN => ?_⟩
          obtain ⟨acc, ea, la, pn⟩ := pa.snoc (p := [u]) nN
          refine ⟨acc, ea, ?_, sD fun b o e => by rw [upd_ne (ne_of_none (z _ _ e) nN)]; exact z _ _ e, ?_⟩
          · rw [la, List.length_map, List.length_take]
            exact small1000 (by omega)
          · rw [← take_map_snoc (fun i => [i]) eu]
            exact pn
      · rintro H' ⟨z, pa⟩
        rw [List.length_map, List.take_length] at pa
        exact k _ _ z pa
    | _ => cases hp
end
end Jd
/-! _sort_at of terms.py at a term without parts. -/
namespace Jd
open PySem PySem.Spec PyProof.Rows L2 RZ
abbrev sSortAt : Stmt := top 38
abbrev saN : List Str := ["look", "names", "term", "at", "depth", "wanted", "sorts", "number", "path", "inner", "sort"]
theorem scSortAt : FnScope saN ["look", "names", "term", "at", "depth"] (defScope sSortAt) := ⟨rfl, rfl, rfl, by decide +kernel, rfl, by decide +kernel, by decide +kernel⟩
/-- a promise of what is never called -/
def spNever : Sp := fun _ _ _ _ => False
section
variable {P : Program} {w : World} {K : PySem.W.Frag} {mg : Str → Option Value} {base : Heap} {H : Hp} {aP dF dG dP cT fT C : Addr} {es eg ep : Array DictEntry} {nF nG nP : Nat}
theorem fnNever {CX : CXT} {j : Nat} {f : Addr} {fd : FuncData} {ps : List Str} : FnOk P w K mg base CX j f fd ps spNever := ⟨fun _ _ _ _ h => h.elim, fun _ _ _ _ _ _ _ _ _ _ _ _ _ h => h.elim⟩
/-- an instance written: lists and tuples stand elsewhere -/
theorem dps_ins {a dx : Addr} {fs : List (Str × V)} {o : HO} (e : H a = some (.ins C dx fs)) {ds : List PyData} {vs : List V} (h : DpAll K H vs ds) : DpAll K (upd H a o) vs ds := by
  refine (dp_of (fun b xs q => ?_) (fun b xs q => ?_)).2 h
  · rcases q with (q | ⟨u, q⟩) | q
    · exact .inl (.inl (by rw [upd_ne (ne_of q e (by intro z; cases z))]; exact q))
    · exact .inl (.inr ⟨u, by rw [upd_ne (ne_of q e (by intro z; cases z))]; exact q⟩)
    · exact .inr q
  · rcases q with (q | ⟨u, q⟩) | q
    · exact .inl (.inl (by rw [upd_ne (ne_of q e (by intro z; cases z))]; exact q))
    · exact .inl (.inr ⟨u, by rw [upd_ne (ne_of q e (by intro z; cases z))]; exact q⟩)
    · exact .inr q
theorem sqT_ins {a b dx : Addr} {fs : List (Str × V)} {o : HO} {xs : List V} (e : H a = some (.ins C dx fs)) (q : SqT K H b xs) : SqT K (upd H a o) b xs := by
  rcases q with (q | ⟨u, q⟩) | q
  · exact .inl (.inl (by rw [upd_ne (ne_of q e (by intro z; cases z))]; exact q))
  · exact .inl (.inr ⟨u, by rw [upd_ne (ne_of q e (by intro z; cases z))]; exact q⟩)
  · exact .inr q
/-- what the top has written of Look and the bounds -/
structure LookTop (P : Program) (K : PySem.W.Frag) (mg : Str → Option Value) (C cT fT : Addr) : Prop where
  cl : Cls K C
  nS : NoAttr K C "size"
  nN : NoAttr K C "nodes"
  mT : mg "BadTerm" = some (.ref cT)
  tT : Er.ErrTxt P K mg cT fT "at"
  mD : ∃ t, mg "MOST_DEPTH" = some (.int 12 t)
  mM : ∃ t, mg "MOST_NODES" = some (.int 60 t)
  enum : mg "enumerate" = none
def spSortAt0 (K : PySem.W.Frag) (C : Addr) : Sp := fun vs H Q _ => ∃ (u a t q dx : Addr) (fs : List (Str × V)) (n c dep : Int) (l : NmL) (xs : List V) (ds : List PyData) (g : Str), vs = [.ref u, .ref a, .ref t, .ref q, .int dep] ∧ H u = some (.ins C dx fs) ∧ fs.lookup ("size" : Str) = some (.int n) ∧ fs.lookup ("nodes" : Str) = some (.int c) ∧ fs.length < 900 ∧
  dep ≤ 12 ∧ c + 1 ≤ 60 ∧ NmD K H a l ∧ SqT K H t xs ∧ DpAll K H xs ds ∧ (∀ x, .str x ∈ ds → x.length ≤ sizeLine) ∧ formD n l (.tuple ds) = true ∧ wordOk l ds ∧ pathsD ds = some [] ∧ givenD l [] ds = some g ∧ ∀ H', (∀ b o, b ≠ u → H b = some o → H' b = some o) → Q (.str g) H'
theorem ok_sortAt0 {f fF fW fP fI fG fN fA : Addr} {fd dFm dW dPt dI dGv dN dA : FuncData} (F : Fun K "_sort_at" "_sort_at" sSortAt f fd) (L : LookTop P K mg C cT fT) (mS : mg "_sort_at" = some (.ref f)) (bS : Binds K fd ["look", "names", "term", "at", "depth"] [])
    (GF : FnOk P w K mg base CX0 4 fF dFm ["size", "names", "term"] (spForm K)) (kF : PySem.W.keepIn K (.ref fF) = true) (bF : Binds K dFm ["size", "names", "term"] []) (mF : mg "_has_form" = some (.ref fF))
    (GW : FnOk P w K mg base CX0 1 fW dW ["names", "term"] (spWantedSorts K)) (kW : PySem.W.keepIn K (.ref fW) = true) (bW : Binds K dW ["names", "term"] []) (mW : mg "_wanted_sorts" = some (.ref fW))
    (GP : FnOk P w K mg base CX0 1 fP dPt ["term"] (spPaths K)) (kP : PySem.W.keepIn K (.ref fP) = true) (bP : Binds K dPt ["term"] []) (mP : mg "part_paths" = some (.ref fP))
    (kI : PySem.W.keepIn K (.ref fI) = true) (bI : Binds K dI ["sort", "wanted", "ahead"] []) (mI : mg "_is_wanted" = some (.ref fI))
    (GG : FnOk P w K mg base CX0 1 fG dGv ["names", "term", "sorts"] (spSortGiven K)) (kG : PySem.W.keepIn K (.ref fG) = true) (bG : Binds K dGv ["names", "term", "sorts"] []) (mG : mg "_sort_given" = some (.ref fG))
    (kN : PySem.W.keepIn K (.ref fN) = true) (bN : Binds K dN ["names", "term", "number"] []) (mN : mg "names_within" = some (.ref fN)) (kA : PySem.W.keepIn K (.ref fA) = true) (bA : Binds K dA ["term", "path"] []) (mA : mg "part_along" = some (.ref fA)) :
    FnOk P w K mg base CX0 5 f fd ["look", "names", "term", "at", "depth"] (spSortAt0 K C) := by
  refine F.ok scSortAt (fun vs H Q E h => ?_) (fun cdv A outer s H vs Q E hr h => ?_)
  · obtain ⟨u, a, t, q, dx, fs, n, c, dep, l, xs, ds, g, rfl, _⟩ := h
    rfl
  · obtain ⟨u, a, t, q, dx, fs, n, c, dep, l, xs, ds, g, rfl, hu, hsz, hnd, hfl, hdep, hc, hn, ht, hs, hz, hform, hword, hpath, hgiv, k⟩ := h
    have nd := scSortAt.nd
    have hr1 := hr.mono (show 1 ≤ 4 by decide)
    obtain ⟨tD, mD⟩ := L.mD
    obtain ⟨tM, mM⟩ := L.mM
    have GN : FnOk P w K mg base CX0 1 fN dN ["names", "term", "number"] spNever := fnNever
    have GA : FnOk P w K mg base CX0 1 fA dA ["term", "path"] spNever := fnNever
    have GS : FnOk P w K mg base CX0 1 f fd ["look", "names", "term", "at", "depth"] spNever := fnNever
    have GI : FnOk P w K mg base CX0 1 fI dI ["sort", "wanted", "ahead"] spNever := fnNever
    refine ⟨_, pss_cons (ps_fldaug (pv 0) pe_int in_add)
      (pss_cons (ps_if (PW.pt (pw_or (pt_cmpR op_gt (pv 4) (pe_glob (v := V.int 12) (by rfl) mD ⟨tD, rfl⟩) (nomark _)) (pw_or1 (pt_cmpR op_gt (pe_fld (pv 0) rfl) (pe_glob (v := V.int 60) (by rfl) mM ⟨tM, rfl⟩) (nomark _))))) (pss_one (ps_raise rfl takes0 (pmk_err L.tT hr (by rfl) L.mT (pv 3)))) pss_nil)
      (pss_cons (ps_if (pt_not (pt_val (pe_call GF hr rfl mF kF bF .nil pass0 (pa_cons (pe_fld (pv 0) rfl) (pa_cons (pv 1) (pa_cons (pv 2) pa_nil)))))) (pss_one (ps_raise rfl takes0 (pmk_err L.tT hr (by rfl) L.mT (pv 3)))) pss_nil)
      (pss_cons (ps_set (i := 5) nd rfl (Or.inl rfl) (pe_call GW hr1 rfl mW kW bW .nil pass0 (pa_cons (pv 1) (pa_cons (pv 2) pa_nil))))
      (pss_cons (ps_set (i := 6) nd rfl (Or.inl rfl) (pe_lst pa_nil))
      (pss_cons (ps_for PassesOwn.never rfl (pi_enum (by rfl) L.enum (pa_cons (pe_call GP hr1 rfl mP kP bP .nil pass0 (pa_cons (pv 2) pa_nil)) pa_nil)) (pg_tup (by rfl) (pgs_cons (pg_name (i := 7) nd rfl (Or.inl rfl)) (pgs_cons (pg_name (i := 8) nd rfl (Or.inl rfl)) pgs_nil)))
        (pss_cons (ps_set (i := 9) nd rfl (Or.inl rfl) (pe_call GN hr1 rfl mN kN bN .nil pass0 (pa_cons (pv 1) (pa_cons (pv 2) (pa_cons (pv 7) pa_nil)))))
        (pss_cons (ps_set (i := 10) nd rfl (Or.inl rfl) (pe_call GS hr1 rfl mS F.kp bS .nil pass0 (pa_cons (pv 0) (pa_cons (pv 9) (pa_cons (pe_call GA hr1 rfl mA kA bA .nil pass0 (pa_cons (pv 2) (pa_cons (pv 8) pa_nil))) (pa_cons (pe_op op_add (pv 3) (pv 8)) (pa_cons (pe_op op_add (pv 4) pe_int) pa_nil)))))))
        (pss_cons (ps_if (pt_not (pt_val (pe_call GI hr1 rfl mI kI bI .nil pass0 (pa_cons (pv 10) (pa_cons (pe_ix ix_tup (pv 5) (pv 7) (fun _ _ => rfl)) (pa_cons (pv 6) pa_nil)))))) (pss_one (ps_raise rfl takes0 (pmk_err L.tT hr (by rfl) L.mT (pe_op op_add (pv 3) (pv 8))))) pss_nil)
        (pss_one (ps_expr (pe_bm PySem.F.plainAttrs_list PySem.F.slot_list_append PySem.F.type_list_append mt_append (pv 6) (pa_cons (pv 10) pa_nil))))))))
      (pss_one (ps_ret (pe_call GG hr1 rfl mG kG bG .nil pass0 (pa_cons (pv 1) (pa_cons (pv 2) (pa_cons (pv 6) pa_nil))))))))))), ?_⟩
    -- look.nodes += 1
    refine ⟨_, rfl, u, C, dx, fs, .int c, rfl, hu, L.cl, L.nN, hnd, ?_⟩
    refine ⟨_, _, rfl, rfl, dx, fs, hu, by omega, ?_⟩
    have f1 : (putF "nodes" (.int (c + 1)) fs).lookup ("nodes" : Str) = some (.int (c + 1)) := by rw [lookup_putF, if_pos rfl]
    have f2 : (putF "nodes" (.int (c + 1)) fs).lookup ("size" : Str) = some (.int n) := by rw [lookup_putF, if_neg (by decide +kernel)]; exact hsz
    have hs1 : DpAll K (upd H u (.ins C dx (putF "nodes" (.int (c + 1)) fs))) xs ds := dps_ins hu hs
    have ht1 : SqT K (upd H u (.ins C dx (putF "nodes" (.int (c + 1)) fs))) t xs := sqT_ins hu ht
    have hn1 : NmD K (upd H u (.ins C dx (putF "nodes" (.int (c + 1)) fs))) a l := by
      obtain ⟨kvs, e, h1, h2⟩ := hn
      exact ⟨kvs, by rw [upd_ne (ne_of e hu (by intro z; cases z))]; exact e, h1, dps_ins hu h2⟩
    have hu1 : (upd H u (.ins C dx (putF "nodes" (.int (c + 1)) fs))) u = some (.ins C dx (putF "nodes" (.int (c + 1)) fs)) := upd_same
    have off : ∀ b o, b ≠ u → H b = some o → (upd H u (.ins C dx (putF "nodes" (.int (c + 1)) fs))) b = some o := fun b o hb e => by rw [upd_ne hb]; exact e
    generalize upd H u (.ins C dx (putF "nodes" (.int (c + 1)) fs)) = H1 at hs1 ht1 hn1 hu1 off ⊢
    -- depth > MOST_DEPTH or look.nodes > MOST_NODES
    refine ⟨_, rfl, _, _, rfl, rfl, _, rfl, ?_⟩
    rw [decide_eq_false (by omega : ¬ (12 : Int) < dep)]
    refine iteF ?_
    refine ⟨_, rfl, u, C, dx, _, _, rfl, hu1, L.cl, L.nN, f1, _, _, rfl, rfl, _, rfl, ?_⟩
    rw [decide_eq_false (by omega : ¬ (60 : Int) < c + 1)]
    refine iteF ?_
    -- _has_form(look.size, names, term)
    refine ⟨_, rfl, u, C, dx, _, _, rfl, hu1, L.cl, L.nS, f2, _, rfl, _, rfl, n, a, l, .ref t, .tuple ds, rfl, hn1, .tup ht1 hs1, fun ds' e x hx => ?_, fun H2 s2 => ⟨_, rfl, ?_⟩⟩
    · cases e
      exact hz x hx
    rw [hform]
    refine iteF ?_
    have hs2 := dps_same s2 hs1
    have ht2 := sqT_same s2 ht1
    refine ⟨_, rfl, _, rfl, a, t, l, xs, ds, rfl, hn1.same s2, ht2, hs2, hword, fun b H3 s3 _ => ?_⟩
    -- sorts = []
    refine ⟨Nat.zero_le _, fun so nso => ?_⟩
    have s4 : Same H3 (upd H3 so (.lst [])) := fun b o e => by rw [upd_ne (ne_of_none e nso)]; exact e
    have e4 : (upd H3 so (.lst [])) so = some (.lst []) := upd_same
    generalize upd H3 so (.lst []) = H4 at s4 e4 ⊢
    have s24 := s3.trans s4
    refine ⟨_, rfl, t, xs, ds, [], rfl, sqT_same s24 ht2, dps_same s24 hs2, hpath, by show 0 ≤ 1000; decide, fun pb H5 s5 pp => ?_⟩
    obtain ⟨as, eas, las, _⟩ := pp
    obtain rfl : as = [] := List.eq_nil_of_length_eq_zero las
    refine ⟨pb, [], rfl, SqL.of eas, ?_⟩
    have all5 : Same H1 H5 := (s2.trans s24).trans s5
    refine for_it (walk_enum (K := K) (a := pb) (xs := [])) (fun i σ H' => σ = (((start saN [V.ref u, V.ref a, V.ref t, V.ref q, V.int dep]).set 5 (some (V.ref b))).set 6 (some (V.ref so))) ∧ H' = H5) ⟨rfl, rfl⟩
      (fun i σ H' _ e => by rw [e.2]; exact SqL.of eas) (fun i x σ H' H'' hi => absurd hi (Nat.not_lt_zero _)) ?_
    rintro σ H' ⟨rfl, rfl⟩
    refine ⟨_, rfl, _, rfl, _, rfl, a, t, so, l, xs, ds, [], g, rfl, hn1.same all5, sqT_same all5 ht1, dps_same all5 hs1, SqL.of (s5 _ _ e4), hgiv, ?_⟩
    exact k _ fun b o hb e => all5 _ _ (off b o hb e)
end
end Jd
/-! Look and checked_sort of terms.py, at a term without parts. -/
namespace Jd
open PySem PySem.Spec PyProof.Rows L2 RZ
abbrev sLookInit : Stmt := inClass (top 34) 0
abbrev sChecked : Stmt := top 37
theorem scLookInit : FnScope ["self", "size"] ["self", "size"] (defScope sLookInit) := ⟨rfl, rfl, rfl, by decide +kernel, rfl, by decide +kernel, by decide +kernel⟩
theorem scChecked : FnScope ["size", "names", "term"] ["size", "names", "term"] (defScope sChecked) := ⟨rfl, rfl, rfl, by decide +kernel, rfl, by decide +kernel, by decide +kernel⟩
section
variable {P : Program} {w : World} {K : PySem.W.Frag} {mg : Str → Option Value} {base : Heap} {H : Hp} {cT fT C : Addr}
def lookF (n : Int) : List (Str × V) := putF "nodes" (.int 0) (putF "size" (.int n) [])
def spLookInit (C : Addr) : Sp := fun vs H Q _ => ∃ (H0 : Hp) (p dx : Addr) (n : Int), vs = [.ref p, .int n] ∧ Same H0 H ∧ H0 p = none ∧ H p = some (.ins C dx []) ∧ ∀ H' dx', Same H0 H' → H' p = some (.ins C dx' (lookF n)) → Q .non H'
theorem ok_lookInit {f : Addr} {fd : FuncData} (F : Fun K "__init__" "Look.__init__" sLookInit f fd) (L : LookTop P K mg C cT fT) : FnOk P w K mg base CX0 1 f fd ["self", "size"] (spLookInit C) := by
  refine F.ok scLookInit (fun vs H Q E h => ?_) (fun cdv A outer s H vs Q E hr h => ?_)
  · obtain ⟨H0, p, dx, n, rfl, _⟩ := h
    rfl
  · obtain ⟨H0, p, dx, n, rfl, s0, p0, hp, k⟩ := h
    refine ⟨_, pss_cons (ps_fld (pv 0) (pv 1) rfl) (pss_one (ps_fld (pv 0) pe_int rfl)), ?_⟩
    refine ⟨_, rfl, _, rfl, p, C, dx, [], rfl, hp, L.cl, L.nS, (by show 0 < 1000; decide), ?_⟩
    refine ⟨_, rfl, p, C, dx, _, rfl, upd_same, L.cl, L.nN, (by show 1 < 1000; decide), ?_⟩
    refine k _ dx (fun b o e => ?_) upd_same
    have nbp : b ≠ p := ne_of_none e p0
    rw [upd_ne nbp, upd_ne nbp]
    exact s0 _ _ e
def spChecked0 (K : PySem.W.Frag) : Sp := fun vs H Q _ => ∃ (a t : Addr) (n : Int) (l : NmL) (xs : List V) (ds : List PyData) (g : Str), vs = [.int n, .ref a, .ref t] ∧ NmD K H a l ∧ SqT K H t xs ∧ DpAll K H xs ds ∧ (∀ x, .str x ∈ ds → x.length ≤ sizeLine) ∧ formD n l (.tuple ds) = true ∧ wordOk l ds ∧ pathsD ds = some [] ∧ givenD l [] ds = some g ∧
  ∀ H', Same H H' → Q (.str g) H'
theorem ok_checked0 {f fS fI : Addr} {fd fdS fdI : FuncData} (F : Fun K "checked_sort" "checked_sort" sChecked f fd) (M : Mk K C fI) (mL : mg "Look" = some (.ref C)) (GI : FnOk P w K mg base CX0 1 fI fdI ["self", "size"] (spLookInit C)) (bI : Binds K fdI ["self", "size"] [])
    (GS : FnOk P w K mg base CX0 5 fS fdS ["look", "names", "term", "at", "depth"] (spSortAt0 K C)) (kS : PySem.W.keepIn K (.ref fS) = true) (bS : Binds K fdS ["look", "names", "term", "at", "depth"] []) (mS : mg "_sort_at" = some (.ref fS)) : FnOk P w K mg base CX0 6 f fd ["size", "names", "term"] (spChecked0 K) := by
  refine F.ok scChecked (fun vs H Q E h => ?_) (fun cdv A outer s H vs Q E hr h => ?_)
  · obtain ⟨a, t, n, l, xs, ds, g, rfl, _⟩ := h
    rfl
  · obtain ⟨a, t, n, l, xs, ds, g, rfl, hn, ht, hs, hz, hform, hword, hpath, hgiv, k⟩ := h
    have hr2 : Room 2 _ := hr.mono (show 2 ≤ 5 by decide)
    refine ⟨_, pss_one (ps_ret (pe_call GS hr rfl mS kS bS .nil pass0 (pa_cons (pe_make M GI hr2 rfl mL bI .nil pass0 (pa_cons (pv 0) pa_nil)) (pa_cons (pv 1) (pa_cons (pv 2) (pa_cons (pe_tup pa_nil) (pa_cons pe_int pa_nil))))))), ?_⟩
    refine ⟨_, rfl, fun p dx np ndx nex => ?_⟩
    have s0 : Same H (upd (upd H dx (.own p)) p (.ins C dx [])) := fun b o e => by
      rw [upd_ne (ne_of_none e np), upd_ne (ne_of_none e ndx)]
      exact e
    refine ⟨H, p, dx, n, rfl, s0, np, upd_same, fun H1 dx' s1 e1 => ⟨rfl, ?_⟩⟩
    refine ⟨_, rfl, _, rfl, Nat.zero_le _, fun q nq => ?_⟩
    have s2 : Same H1 (upd H1 q (.tup [])) := fun b o e => by rw [upd_ne (ne_of_none e nq)]; exact e
    have e2 := s2 _ _ e1
    generalize upd H1 q (.tup []) = H2 at s2 e2 ⊢
    have s12 := s1.trans s2
    refine ⟨p, a, t, q, dx', lookF n, n, 0, 1, l, xs, ds, g, rfl, e2, ?_, ?_, ?_, by decide, by decide, hn.same s12, sqT_same s12 ht, dps_same s12 hs, hz, hform, hword, hpath, hgiv, fun H3 s3 => k _ fun b o e => ?_⟩
    · unfold lookF
      rw [lookup_putF, if_neg (by decide +kernel), lookup_putF, if_pos rfl]
    · unfold lookF
      rw [lookup_putF, if_pos rfl]
    · show (putF _ _ _).length < 900
      rw [show (putF ("nodes" : Str) (V.int 0) (putF "size" (.int n) [])) = [(("size" : Str), V.int n), ("nodes", V.int 0)] from rfl]
      show 2 < 900
      decide
    · exact s3 _ _ (ne_of_none e np) (s12 _ _ e)
end
end Jd
/-! sort_of, is_term, Piece and Function: what they say to a wrong size or wrong names; is_term at a term without parts. -/
namespace Jd
open PySem PySem.Spec PyProof.Rows L2 RZ
abbrev sIsTerm : Stmt := top 35
abbrev sSortOf : Stmt := top 36
theorem scIsTerm : FnScope ["size", "names", "thing"] ["size", "names", "thing"] (defScope sIsTerm) := ⟨rfl, rfl, rfl, by decide +kernel, rfl, by decide +kernel, by decide +kernel⟩
theorem scSortOf : FnScope ["size", "names", "term"] ["size", "names", "term"] (defScope sSortOf) := ⟨rfl, rfl, rfl, by decide +kernel, rfl, by decide +kernel, by decide +kernel⟩
/-- a wrong size, or a right one and wrong names -/
def Bad2 (K : PySem.W.Frag) (cN cS : Addr) (v vn : V) (H : Hp) (E : XK) : Prop :=
  (∃ d, Dp K H v d ∧ withinD 2 4 d = false ∧ ∀ x, H x = none → E (.ref cN) (some x) (upd H x (.xd [(("part" : Str), .str "size")]))) ∨
  ∃ d o, Dp K H v d ∧ withinD 2 4 d = true ∧ NmAt K H vn o ∧ namesD o = false ∧ ∀ H', Same H H' → E (.ref cS) none H'
section
variable {P : Program} {w : World} {K : PySem.W.Frag} {mg : Str → Option Value} {base : Heap} {H : Hp} {cN cS fE cT fT C : Addr}
/-- check_size and check_names, as they stand in the top -/
structure Chk (P : Program) (w : World) (K : PySem.W.Frag) (mg : Str → Option Value) (base : Heap) (cN cS fZ fM : Addr) (dZ dM : FuncData) : Prop where
  gZ : FnOk P w K mg base (L2.CX P w) 3 fZ dZ ["size"] (spChkSize K cN)
  kZ : PySem.W.keepIn K (.ref fZ) = true
  bZ : Binds K dZ ["size"] []
  mZ : mg "check_size" = some (.ref fZ)
  gM : FnOk P w K mg base (L2.CX P w) 4 fM dM ["names"] (spChkNames K cS)
  kM : PySem.W.keepIn K (.ref fM) = true
  bM : Binds K dM ["names"] []
  mM : mg "check_names" = some (.ref fM)
def spSortOf (K : PySem.W.Frag) (cN cS : Addr) : Sp := fun vs H Q E => ∃ v vn vt, vs = [v, vn, vt] ∧ Bad2 K cN cS v vn H E
theorem ok_sortOf {f fZ fM fC : Addr} {fd dZ dM dC : FuncData} (F : Fun K "sort_of" "sort_of" sSortOf f fd) (G : Chk P w K mg base cN cS fZ fM dZ dM) (kC : PySem.W.keepIn K (.ref fC) = true) (bC : Binds K dC ["size", "names", "term"] []) (mC : mg "checked_sort" = some (.ref fC)) :
    FnOk P w K mg base (L2.CX P w) 5 f fd ["size", "names", "term"] (spSortOf K cN cS) := by
  have GC : FnOk P w K mg base CX0 1 fC dC ["size", "names", "term"] spNever := fnNever
  refine F.okX scSortOf (fun vs H Q E h => ?_) (fun cdv A outer s H vs Q E hr h => ?_)
  · obtain ⟨v, vn, vt, rfl, _⟩ := h
    rfl
  · obtain ⟨v, vn, vt, rfl, hb⟩ := h
    have hr3 := hr.mono (show 3 ≤ 4 by decide)
    have hr1 := hr.mono (show 1 ≤ 4 by decide)
    refine ⟨_, pss_cons (ps_expr (pe_callS (E := WE fun cls d _ H => E cls d H) G.gZ hr3 rfl G.mZ G.kZ G.bZ (fun σ => passAt (takes_of rfl rfl rfl rfl) σ) (pa_cons (pv 0) pa_nil)))
      (pss_cons (ps_expr (pe_callS (E := WE fun cls d _ H => E cls d H) G.gM hr rfl G.mM G.kM G.bM (fun σ => passAt (takes_of rfl rfl rfl rfl) σ) (pa_cons (pv 1) pa_nil)))
      (pss_one (ps_ret (pe_call GC hr1 rfl mC kC bC .nil pass0 (pa_cons (pv 0) (pa_cons (pv 1) (pa_cons (pv 2) pa_nil))))))), ?_⟩
    rcases hb with ⟨d, hd, e1, k⟩ | ⟨d, o, hd, e1, hn, e2, k⟩
    · exact ⟨_, rfl, v, d, rfl, hd, fun z => absurd (e1.symm.trans z) Bool.false_ne_true, fun _ x hx => k x hx⟩
    · refine ⟨_, rfl, v, d, rfl, hd, fun _ => ?_, fun z => absurd (z.symm.trans e1) Bool.false_ne_true⟩
      exact ⟨_, rfl, vn, o, rfl, hn, fun z => absurd (e2.symm.trans z) Bool.false_ne_true, fun _ H' s => k H' s⟩
/-- is_term: what check_size and check_names raise; True of a term without parts; (BadTerm's answer is not told here) -/
def spIsTerm (K : PySem.W.Frag) (cN cS : Addr) : Sp := fun vs H Q E => ∃ v vn vt, vs = [v, vn, vt] ∧ (Bad2 K cN cS v vn H E ∨
  ∃ (n : Int) (a t : Addr) (l : NmL) (o : Option (List (Key × PyData))) (xs : List V) (ds : List PyData) (g : Str), v = .int n ∧ vn = .ref a ∧ vt = .ref t ∧ withinD 2 4 (.int n) = true ∧ NmAt K H vn o ∧ namesD o = true ∧ NmD K H a l ∧ SqT K H t xs ∧ DpAll K H xs ds ∧ (∀ x, .str x ∈ ds → x.length ≤ sizeLine) ∧
    formD n l (.tuple ds) = true ∧ wordOk l ds ∧ pathsD ds = some [] ∧ givenD l [] ds = some g ∧ ∀ H', Same H H' → Q (.bl true) H')
theorem ok_isTerm {f fZ fM fC : Addr} {fd dZ dM dC : FuncData} (F : Fun K "is_term" "is_term" sIsTerm f fd) (G : Chk P w K mg base cN cS fZ fM dZ dM) (mT : mg "BadTerm" = some (.ref cT)) (GC : FnOk P w K mg base CX0 6 fC dC ["size", "names", "term"] (spChecked0 K)) (kC : PySem.W.keepIn K (.ref fC) = true)
    (bC : Binds K dC ["size", "names", "term"] []) (mC : mg "checked_sort" = some (.ref fC)) : FnOk P w K mg base (L2.CX P w) 7 f fd ["size", "names", "thing"] (spIsTerm K cN cS) := by
  refine F.okX scIsTerm (fun vs H Q E h => ?_) (fun cdv A outer s H vs Q E hr h => ?_)
  · obtain ⟨v, vn, vt, rfl, _⟩ := h
    rfl
  · obtain ⟨v, vn, vt, rfl, hb⟩ := h
    have hr3 := hr.mono (show 3 ≤ 6 by decide)
    have hr4 := hr.mono (show 4 ≤ 6 by decide)
    refine ⟨_, pss_cons (ps_expr (pe_callS (E := WE fun cls d _ H => E cls d H) G.gZ hr3 rfl G.mZ G.kZ G.bZ (fun σ => passAt (takes_of rfl rfl rfl rfl) σ) (pa_cons (pv 0) pa_nil)))
      (pss_cons (ps_expr (pe_callS (E := WE fun cls d _ H => E cls d H) G.gM hr4 rfl G.mM G.kM G.bM (fun σ => passAt (takes_of rfl rfl rfl rfl) σ) (pa_cons (pv 1) pa_nil)))
      (pss_cons (ps_try_only (c := .ref cT) (tb := fun W => tDrop (tCall (spChecked0 K) [] E0 (tCons (tVar 0) (tCons (tVar 1) (tCons (tVar 2) tNil))))) (Wout := fun _ _ _ _ => False) rfl rfl ⟨rfl, by decide, Or.inl mT⟩ takes0
          (fun W pn xe tk _ => pss_one (ps_expr (pe_call GC hr rfl mC kC bC .nil pass0 (pa_cons (pv 0) (pa_cons (pv 1) (pa_cons (pv 2) pa_nil)))))) (fun a oe cls d pn hz hf => pss_one (ps_ret pe_bl)))
      (pss_one (ps_ret pe_bl)))), ?_⟩
    rcases hb with (⟨d, hd, e1, k⟩ | ⟨d, o, hd, e1, hn, e2, k⟩) | ⟨n, a, t, l, o, xs, ds, g, rfl, rfl, rfl, e1, hn, e2, hl, ht, hs, hz, hform, hword, hpath, hgiv, k⟩
    · exact ⟨_, rfl, v, d, rfl, hd, fun z => absurd (e1.symm.trans z) Bool.false_ne_true, fun _ x hx => k x hx⟩
    · refine ⟨_, rfl, v, d, rfl, hd, fun _ => ?_, fun z => absurd (z.symm.trans e1) Bool.false_ne_true⟩
      exact ⟨_, rfl, vn, o, rfl, hn, fun z => absurd (e2.symm.trans z) Bool.false_ne_true, fun _ H' s => k H' s⟩
    · refine ⟨_, rfl, _, _, rfl, .int n, fun _ => ?_, fun z => absurd (z.symm.trans e1) Bool.false_ne_true⟩
      refine ⟨_, rfl, _, o, rfl, hn, fun _ H1 s1 => ?_, fun z => absurd (z.symm.trans e2) Bool.false_ne_true⟩
      refine ⟨_, rfl, _, rfl, _, rfl, a, t, n, l, xs, ds, g, rfl, hl.same s1, sqT_same s1 ht, dps_same s1 hs, hz, hform, hword, hpath, hgiv, fun H2 s2 => ?_⟩
      exact k _ (s1.trans s2)
end
end Jd
/-! The making of a Piece or a Function of a wrong size or wrong names. -/
namespace Jd
open PySem PySem.Spec PyProof.Rows L2 RZ
abbrev sPieceInit : Stmt := inClass (top 46) 0
abbrev sFuncInit : Stmt := inClass (top 47) 0
theorem scPieceInit : FnScope ["self", "size", "names", "term", "kind"] ["self", "size", "names", "term"] (defScope sPieceInit) := ⟨rfl, rfl, rfl, by decide +kernel, rfl, by decide +kernel, by decide +kernel⟩
theorem scFuncInit : FnScope ["self", "size", "names", "params", "term", "given", "word", "sort"] ["self", "size", "names", "params", "term"] (defScope sFuncInit) := ⟨rfl, rfl, rfl, by decide +kernel, rfl, by decide +kernel, by decide +kernel⟩
/-- what is never reached -/
theorem pss_never {X : Cx} {l : List Stmt} : PSs X l (fun _ _ _ => False) := ⟨fun _ _ _ _ _ _ h => h.elim⟩
section
variable {P : Program} {w : World} {K : PySem.W.Frag} {mg : Str → Option Value} {base : Heap} {H : Hp} {cN cS : Addr}
def spPieceInit (K : PySem.W.Frag) (cN cS : Addr) : Sp := fun vs H Q E => ∃ self v vn vt, vs = [self, v, vn, vt] ∧ Bad2 K cN cS v vn H E
theorem ok_pieceInit {f fZ fM : Addr} {fd dZ dM : FuncData} (F : Fun K "__init__" "Piece.__init__" sPieceInit f fd) (G : Chk P w K mg base cN cS fZ fM dZ dM) : FnOk P w K mg base (L2.CX P w) 5 f fd ["self", "size", "names", "term"] (spPieceInit K cN cS) := by
  refine F.okX scPieceInit (fun vs H Q E h => ?_) (fun cdv A outer s H vs Q E hr h => ?_)
  · obtain ⟨sf, v, vn, vt, rfl, _⟩ := h
    rfl
  · obtain ⟨sf, v, vn, vt, rfl, hb⟩ := h
    have hr3 := hr.mono (show 3 ≤ 4 by decide)
    refine ⟨_, pss_cons (ps_expr (pe_callS (E := WE fun cls d _ H => E cls d H) G.gZ hr3 rfl G.mZ G.kZ G.bZ (fun σ => passAt (takes_of rfl rfl rfl rfl) σ) (pa_cons (pv 1) pa_nil)))
      (pss_cons (ps_expr (pe_callS (E := WE fun cls d _ H => E cls d H) G.gM hr rfl G.mM G.kM G.bM (fun σ => passAt (takes_of rfl rfl rfl rfl) σ) (pa_cons (pv 2) pa_nil))) pss_never), ?_⟩
    rcases hb with ⟨d, hd, e1, k⟩ | ⟨d, o, hd, e1, hn, e2, k⟩
    · exact ⟨_, rfl, v, d, rfl, hd, fun z => absurd (e1.symm.trans z) Bool.false_ne_true, fun _ x hx => k x hx⟩
    · refine ⟨_, rfl, v, d, rfl, hd, fun _ => ?_, fun z => absurd (z.symm.trans e1) Bool.false_ne_true⟩
      exact ⟨_, rfl, vn, o, rfl, hn, fun z => absurd (e2.symm.trans z) Bool.false_ne_true, fun _ H' s => k H' s⟩
def spFuncInit (K : PySem.W.Frag) (cN cS : Addr) : Sp := fun vs H Q E => ∃ self v vn vp vt, vs = [self, v, vn, vp, vt] ∧ Bad2 K cN cS v vn H E
theorem ok_funcInit {f fZ fM : Addr} {fd dZ dM : FuncData} (F : Fun K "__init__" "Function.__init__" sFuncInit f fd) (G : Chk P w K mg base cN cS fZ fM dZ dM) : FnOk P w K mg base (L2.CX P w) 5 f fd ["self", "size", "names", "params", "term"] (spFuncInit K cN cS) := by
  refine F.okX scFuncInit (fun vs H Q E h => ?_) (fun cdv A outer s H vs Q E hr h => ?_)
  · obtain ⟨sf, v, vn, vp, vt, rfl, _⟩ := h
    rfl
  · obtain ⟨sf, v, vn, vp, vt, rfl, hb⟩ := h
    have hr3 := hr.mono (show 3 ≤ 4 by decide)
    refine ⟨_, pss_cons (ps_expr (pe_callS (E := WE fun cls d _ H => E cls d H) G.gZ hr3 rfl G.mZ G.kZ G.bZ (fun σ => passAt (takes_of rfl rfl rfl rfl) σ) (pa_cons (pv 1) pa_nil)))
      (pss_cons (ps_expr (pe_callS (E := WE fun cls d _ H => E cls d H) G.gM hr rfl G.mM G.kM G.bM (fun σ => passAt (takes_of rfl rfl rfl rfl) σ) (pa_cons (pv 2) pa_nil))) pss_never), ?_⟩
    rcases hb with ⟨d, hd, e1, k⟩ | ⟨d, o, hd, e1, hn, e2, k⟩
    · exact ⟨_, rfl, v, d, rfl, hd, fun z => absurd (e1.symm.trans z) Bool.false_ne_true, fun _ x hx => k x hx⟩
    · refine ⟨_, rfl, v, d, rfl, hd, fun _ => ?_, fun z => absurd (z.symm.trans e1) Bool.false_ne_true⟩
      exact ⟨_, rfl, vn, o, rfl, hn, fun z => absurd (e2.symm.trans z) Bool.false_ne_true, fun _ H' s => k H' s⟩
end
end Jd
/-! _law_shuffled: the words of a list, in some sequence. -/
namespace Dk
open PySem PySem.Spec PyProof.Rows L2
abbrev sShuffled : Stmt := top 55
theorem scShuffled : FnScope ["draw", "some", "left", "found"] ["draw", "some"] (defScope sShuffled) := ⟨rfl, rfl, rfl, by decide +kernel, rfl, by decide +kernel, by decide +kernel⟩
def spShuffled : Sp := fun vs H Q _ => ∃ (d l c a : Addr) (ss : List Str), vs = [.ref d, .ref a] ∧ DrawAt H d l c ∧ H a = some (.lst (ss.map V.str)) ∧ ss.length ≤ 20 ∧ (∀ x ∈ ss, PyData.strOk x = true) ∧
  ∀ (p : Addr) (zs : List Str) (H' : Hp), DrawAt H' d l c → But H H' d l → H p = none → H' p = some (.lst (zs.map V.str)) → zs.Perm ss → Q (.ref p) H'
section
variable {P : Program} {w : World} {K : PySem.W.Frag} {mg : Str → Option Value} {base : Heap}
theorem erase_map {α β : Type} (f : α → β) : ∀ (l : List α) (j : Nat), (l.map f).eraseIdx j = (l.eraseIdx j).map f
  | [], _ => rfl
  | _ :: _, 0 => rfl
  | a :: l, j + 1 => by
    show f a :: (l.map f).eraseIdx j = f a :: (l.eraseIdx j).map f
    rw [erase_map f l j]
theorem erase_perm {α : Type} : ∀ {l : List α} {j : Nat} {y : α}, l[j]? = some y → (y :: l.eraseIdx j).Perm l
  | [], _, _, h => by simp at h
  | a :: l, 0, y, h => by cases h; exact .refl _
  | a :: l, j + 1, y, h => (List.Perm.swap a y (l.eraseIdx j)).trans ((erase_perm (l := l) (j := j) (y := y) (by simpa using h)).cons a)
theorem dp_strs {H : Hp} : ∀ ls : List Str, DpAll K H (ls.map V.str) (ls.map PyData.str)
  | [] => .nil
  | x :: xs => .cons (.str x) (dp_strs xs)
theorem depth_strs : ∀ ls : List Str, PyData.depthAll (ls.map PyData.str) = 0
  | [] => by simp [PyData.depthAll]
  | x :: xs => by rw [List.map_cons, PyData.depthAll, depth_strs xs]; simp [PyData.depth]
theorem lay_strs : ∀ ls : List Str, (∀ x ∈ ls, PyData.strOk x = true) → PyData.canLayAll0 (ls.map PyData.str) = true
  | [], _ => by simp [PyData.canLayAll0]
  | x :: xs, h => by
    rw [List.map_cons, PyData.canLayAll0, lay_strs xs fun y hy => h y (List.mem_cons_of_mem _ hy)]
    simp [PyData.canLay0, h x (List.mem_cons_self)]
theorem shaped_strs (ls : List Str) (h : ∀ x ∈ ls, PyData.strOk x = true) : SeqAt.shaped (.list (ls.map PyData.str)) = true := by
  unfold SeqAt.shaped
  rw [PyData.canLay0, lay_strs ls h, PyData.depth, depth_strs]
  rfl
theorem DrawAt.off {H : Hp} {d l c L : Addr} {o : HO} (D : DrawAt H d l c) (h1 : L ≠ d) (h2 : L ≠ l) (h3 : L ≠ c) : DrawAt (upd H L o) d l c := by
  obtain ⟨a1, a2, a3, r0, t0, ls, cs, ed, el, ec, q⟩ := D
  exact ⟨a1, a2, a3, r0, t0, ls, cs, by rw [upd_ne h1.symm]; exact ed, by rw [upd_ne h2.symm]; exact el, by rw [upd_ne h3.symm]; exact ec, q⟩
theorem ok_shuffled {f fT : Addr} {fd fdT : FuncData} (F : Fun K "_law_shuffled" "_law_shuffled" sShuffled f fd) (mL : mg "len" = none) (mLi : mg "list" = none) (GT : FnOk P w K mg base CX0 2 fT fdT ["draw", "amount"] spTake) (kT : PySem.W.keepIn K (.ref fT) = true)
    (bT : Binds K fdT ["draw", "amount"] []) (mT : mg "_law_take" = some (.ref fT)) : FnOk P w K mg base CX0 3 f fd ["draw", "some"] spShuffled := by
  refine F.ok scShuffled (fun vs H Q E h => ?_) (fun cdv A outer s H vs Q E hr h => ?_)
  · obtain ⟨d, l, c, a, ss, rfl, _⟩ := h
    rfl
  · obtain ⟨d, l, c, a, ss, rfl, D, ea, hl, hok, k⟩ := h
    have nd := scShuffled.nd
    refine ⟨_, pss_cons (ps_par (i := 2) (j := 3) rfl nd rfl rfl (by decide) rfl rfl (pa_cons (pe_callTy call_list_of (by rfl) mLi (by decide +kernel) (pa_cons (pv 1) pa_nil)) (pa_cons (pe_lst pa_nil) pa_nil)) (by rfl))
      (pss_cons (ps_while PassesOwn.never (pt_cmpR (op_neD hr.units) (pv 2) (pe_lst pa_nil) (nomark _))
        (pss_one (ps_expr (pe_bm PySem.F.plainAttrs_list PySem.F.slot_list_append PySem.F.type_list_append mt_append (pv 3)
          (pa_cons (pe_bm PySem.F.plainAttrs_list PySem.F.slot_list_pop PySem.F.type_list_pop mt_popAt (pv 2) (pa_cons (pe_call GT hr rfl mT kT bT .nil pass0 (pa_cons (pv 0) (pa_cons (pe_callB call_len_seq (by rfl) mL PySem.boot_len (pa_cons (pv 2) pa_nil)) pa_nil))) pa_nil)) pa_nil)))))
      (pss_one (ps_ret (pv 3)))), ?_⟩
    -- left, found = list(some), []
    refine ⟨_, rfl, a, _, rfl, .inl (SqL.of ea), fun L nL => ⟨Nat.zero_le _, fun Fo nF => ?_⟩⟩
    refine ⟨_, _, rfl, ?_⟩
    obtain ⟨_, _, _, r0, t0, ls, cs, ed, el, ec, _⟩ := id D
    have nFL : Fo ≠ L := fun z => by
      rw [z, upd_same] at nF
      cases nF
    have nF0 : H Fo = none := by
      rw [upd_ne nFL] at nF
      exact nF
    have Ld : L ≠ d := (ne_of_none ed nL).symm
    have Ll : L ≠ l := (ne_of_none el nL).symm
    have Lc : L ≠ c := (ne_of_none ec nL).symm
    have Fd : Fo ≠ d := (ne_of_none ed nF0).symm
    have Fl : Fo ≠ l := (ne_of_none el nF0).symm
    have Fc : Fo ≠ c := (ne_of_none ec nF0).symm
    refine ⟨fun m σ H' => ∃ lf fo : List Str, σ = [some (.ref d), some (.ref a), some (.ref L), some (.ref Fo)] ∧ DrawAt H' d l c ∧ But H H' d l ∧ H' L = some (.lst (lf.map V.str)) ∧ H' Fo = some (.lst (fo.map V.str)) ∧ (fo ++ lf).Perm ss ∧ m = lf.length, ?_, ?_⟩
    · refine ⟨_, ss, [], rfl, (D.off Ld Ll Lc).off Fd Fl Fc, fun b o e _ _ => ?_, by rw [upd_ne nFL.symm, upd_same], upd_same, by simp, rfl⟩
      rw [upd_ne (ne_of_none e nF0), upd_ne (ne_of_none e nL)]
      exact e
    · rintro m σ H1 ⟨lf, fo, rfl, D1, B1, eL, eF, pm, rfl⟩
      have okl : ∀ x ∈ lf, PyData.strOk x = true := fun x hx => hok x (pm.mem_iff.mp (List.mem_append_right _ hx))
      have lens : fo.length + lf.length ≤ 20 := by
        have := pm.length_eq
        rw [List.length_append] at this
        omega
      refine ⟨_, rfl, Nat.zero_le _, fun q nq => ?_⟩
      have sq : Same H1 (upd H1 q (.lst [])) := fun b o e => by rw [upd_ne (ne_of_none e nq)]; exact e
      refine ⟨.list (lf.map PyData.str), .list [], .lst (SqL.of (sq _ _ eL)) (dp_strs lf), .lst (SqL.of upd_same) .nil, shaped_strs lf okl, rfl, _, rfl, ?_⟩
      have D2 := D1.same sq
      have B2 := B1.trans (But.same sq (But.refl _ _ _))
      have eL2 := sq _ _ eL
      have eF2 := sq _ _ eF
      generalize upd H1 q (.lst []) = H2 at D2 B2 eL2 eF2 ⊢
      cases lf with
      | nil =>
        refine iteF ?_
        rw [List.append_nil] at pm
        exact ⟨_, rfl, k Fo fo H2 D2 B2 nF0 eF2 pm⟩
      | cons x0 xs =>
        refine iteT ?_
        refine ⟨fun σ' H' => ∃ lf fo : List Str, σ' = [some (.ref d), some (.ref a), some (.ref L), some (.ref Fo)] ∧ DrawAt H' d l c ∧ But H H' d l ∧ H' L = some (.lst (lf.map V.str)) ∧ H' Fo = some (.lst (fo.map V.str)) ∧ (fo ++ lf).Perm ss ∧ lf.length = xs.length,
          fun σ' H' ⟨lf, fo, h1, h2, h3, h4, h5, h6, h7⟩ => ⟨lf.length, by rw [h7]; exact Nat.lt_succ_self _, lf, fo, h1, h2, h3, h4, h5, h6, rfl⟩, ?_⟩
        -- found.append(left.pop(_law_take(draw, len(left))))
        refine ⟨_, rfl, .inl ⟨rfl, _, SqL.of eF2⟩, _, rfl, .inl ⟨rfl, _, SqL.of eL2⟩, _, rfl, _, rfl, L, _, rfl, .inl (SqL.of eL2), d, l, c, _, rfl, by simp only [List.length_map, List.length_cons]; omega, by simp only [List.length_map, List.length_cons] at lens ⊢; omega, D2, fun n H3 n0 n1 D3 B3 => ?_⟩
        obtain ⟨j, rfl⟩ := Int.eq_ofNat_of_zero_le n0
        have jl : j < (x0 :: xs).length := by
          rw [List.length_map] at n1
          omega
        obtain ⟨y, ey⟩ : ∃ y, (x0 :: xs)[j]? = some y := ⟨_, List.getElem?_eq_getElem jl⟩
        have eL3 := B3 _ _ eL2 Ld Ll
        have eF3 := B3 _ _ eF2 Fd Fl
        have sx : seqIndex? ((j : Nat) : Int) ((x0 :: xs).map V.str).length = some j :=
          (ixN_seq (by unfold ixN; rw [List.length_map, if_pos (by omega), if_pos (by omega), Int.toNat_natCast])).1
        refine ⟨L, _, _, j, .str y, rfl, rfl, eL3, by omega, by simp only [List.length_cons] at jl lens; omega, sx, by rw [List.getElem?_map, ey]; rfl, Fo, _, .str y, rfl, rfl, by rw [upd_ne nFL]; exact eF3, ?_, ?_⟩
        · rw [List.length_map]
          exact small1000 (by omega)
        refine ⟨(x0 :: xs).eraseIdx j, fo ++ [y], rfl, (D3.off Ld Ll Lc).off Fd Fl Fc, fun b o e h1 h2 => ?_, ?_, ?_, ?_, ?_⟩
        · have z := B3 _ _ (B2 b o e h1 h2) h1 h2
          rw [upd_ne (ne_of_none e nF0), upd_ne (ne_of_none e nL)]
          exact z
        · rw [upd_ne nFL.symm, upd_same, erase_map]
        · rw [upd_same, List.map_append]
          rfl
        · have p1 : (y :: (x0 :: xs).eraseIdx j).Perm (x0 :: xs) := erase_perm ey
          rw [List.append_assoc]
          exact (List.Perm.append_left fo p1).trans pm
        · rw [List.length_eraseIdx_of_lt jl]
          rfl
end
end Dk
/-! _law_names: drawn names and their sorts. -/
namespace Jd
open PySem PySem.Spec PyProof.Rows L2 Dk
abbrev sLawNames : Stmt := Jd.top 57
abbrev lnN : List Str := ["draw", "many", "most_args", "found", "word", "way", "args_here", "k"]
theorem scLawNames : FnScope lnN ["draw", "many", "most_args"] (defScope sLawNames) := ⟨rfl, rfl, rfl, by decide +kernel, rfl, by decide +kernel, by decide +kernel⟩
/-- a drawn sort at v -/
def SortAt (H : Hp) (v : V) (ts : List Str) (g : Str) : Prop := ∃ a b : Addr, v = .ref a ∧ H a = some (.tup [.ref b, .str g]) ∧ H b = some (.tup (ts.map V.str))
def GoodS (ts : List Str) (g : Str) : Prop := sortD (.tuple [.tuple (ts.map PyData.str), .str g]) = true
abbrev words4 : List Str := ["f", "x", "v", "go"]
abbrev sorts2 : List Str := ["num", "do"]
abbrev sorts4 : List Str := ["num", "num", "do", "box"]
section
variable {P : Program} {w : World} {K : PySem.W.Frag} {mg : Str → Option Value} {base : Heap} {H : Hp}
theorem SortAt.but {H' : Hp} {v : V} {ts : List Str} {g : Str} {d l c : Addr} (s : SortAt H v ts g) (D : DrawAt H d l c) (B : But H H' d l) : SortAt H' v ts g := by
  obtain ⟨a, b, rfl, e1, e2⟩ := s
  obtain ⟨_, _, _, _, _, ls, cs, ed, el, _⟩ := D
  exact ⟨a, b, rfl, B _ _ e1 (ne_of e1 ed (by intro z; cases z)) (ne_of e1 el (by intro z; cases z)), B _ _ e2 (ne_of e2 ed (by intro z; cases z)) (ne_of e2 el (by intro z; cases z))⟩
theorem SortAt.off {v : V} {ts : List Str} {g : Str} {p : Addr} {o u : HO} (s : SortAt H v ts g) (e : H p = some u) (hu : ∀ xs, u ≠ .tup xs) : SortAt (upd H p o) v ts g := by
  obtain ⟨a, b, rfl, e1, e2⟩ := s
  exact ⟨a, b, rfl, by rw [upd_ne (ne_of e1 e (hu _).symm)]; exact e1, by rw [upd_ne (ne_of e2 e (hu _).symm)]; exact e2⟩
theorem SortAt.same {H' : Hp} {v : V} {ts : List Str} {g : Str} (s : SortAt H v ts g) (z : Same H H') : SortAt H' v ts g := by
  obtain ⟨a, b, rfl, e1, e2⟩ := s
  exact ⟨a, b, rfl, z _ _ e1, z _ _ e2⟩
theorem SortAt.dp {v : V} {ts : List Str} {g : Str} (s : SortAt H v ts g) : Dp K H v (.tuple [.tuple (ts.map PyData.str), .str g]) := by
  obtain ⟨a, b, rfl, e1, e2⟩ := s
  exact .tup (SqT.of e1) (.cons (.tup (SqT.of e2) (dp_strs ts)) (.cons (.str g) .nil))
/-- rows of drawn names in a dict: word, sort -/
abbrev NmS := List (Str × (List Str × Str))
def toNm (l : NmS) : NmL := l.map fun q => (q.1, (q.2.1.map PyData.str, q.2.2))
/-- the dict at p holds these drawn names -/
def NmsAt (H : Hp) (p : Addr) (l : NmS) : Prop := ∃ vs : List V, vs.length = l.length ∧ H p = some (.dK ((l.map fun q => (.inr q.1 : Key)).zip vs)) ∧ ∀ (i : Nat) (v : V) (q : Str × (List Str × Str)), vs[i]? = some v → l[i]? = some q → SortAt H v q.2.1 q.2.2
def GoodNm (l : NmS) : Prop := l.length ≤ 4 ∧ ∀ q ∈ l, wordD (.str q.1) = true ∧ GoodS q.2.1 q.2.2
theorem NmsAt.nil {p : Addr} (e : H p = some (.dK [])) : NmsAt H p [] := ⟨[], rfl, e, fun i v q h => by simp at h⟩
theorem NmsAt.but {H' : Hp} {p : Addr} {nm : NmS} {d l c : Addr} (n : NmsAt H p nm) (D : DrawAt H d l c) (B : But H H' d l) (pd : p ≠ d) (pl : p ≠ l) : NmsAt H' p nm := by
  obtain ⟨vs, h1, h2, h3⟩ := n
  exact ⟨vs, h1, B _ _ h2 pd pl, fun i v q a b => (h3 i v q a b).but D B⟩
theorem NmsAt.same {H' : Hp} {p : Addr} {nm : NmS} (n : NmsAt H p nm) (z : Same H H') : NmsAt H' p nm := by
  obtain ⟨vs, h1, h2, h3⟩ := n
  exact ⟨vs, h1, z _ _ h2, fun i v q a b => (h3 i v q a b).same z⟩
theorem NmsAt.put {p : Addr} {nm : NmS} {y : Str} {v : V} {ts : List Str} {g : Str} (n : NmsAt H p nm) (new : y ∉ nm.map Prod.fst) (s : SortAt H v ts g) (hl : nm.length ≤ 10) :
    DPut H p (.str y) v (upd H p (.dK (((nm ++ [(y, (ts, g))]).map fun q => (.inr q.1 : Key)).zip ((n.choose) ++ [v])))) ∧ NmsAt (upd H p (.dK (((nm ++ [(y, (ts, g))]).map fun q => (.inr q.1 : Key)).zip ((n.choose) ++ [v])))) p (nm ++ [(y, (ts, g))]) := by
  have h := n.choose_spec
  generalize n.choose = vs at h ⊢
  obtain ⟨h1, h2, h3⟩ := h
  have ez : ((nm ++ [(y, (ts, g))]).map fun q => (.inr q.1 : Key)).zip (vs ++ [v]) = (nm.map fun q => (.inr q.1 : Key)).zip vs ++ [((.inr y : Key), v)] := by
    rw [List.map_append, List.zip_append (by rw [List.length_map]; exact h1.symm)]
    rfl
  have ep : putK ((nm.map fun q => (.inr q.1 : Key)).zip vs) (.inr y) v = (nm.map fun q => (.inr q.1 : Key)).zip vs ++ [((.inr y : Key), v)] := by
    unfold putK
    rw [if_neg]
    intro z
    rw [List.any_eq_true] at z
    obtain ⟨kv, m, e⟩ := z
    have m1 := (List.of_mem_zip m).1
    rw [List.mem_map] at m1
    obtain ⟨q, mq, eq⟩ := m1
    have e' : kv.1 = .inr y := of_decide_eq_true e
    rw [← eq] at e'
    exact new (List.mem_map.mpr ⟨q, mq, Sum.inr.inj e'⟩)
  have kl : ((nm.map fun q => (.inr q.1 : Key)).zip vs).length < sizeLine := by
    rw [List.length_zip, List.length_map]
    exact small1000 (by omega)
  rw [ez]
  refine ⟨?_, vs ++ [v], by simp [h1], by rw [upd_same, ez], fun i u q a b => ?_⟩
  · have z := DPut.k (k := (.inr y : Key)) (v := v) h2 kl
    rw [ep] at z
    exact z
  · by_cases hi : i < vs.length
    · rw [List.getElem?_append_left hi] at a
      rw [List.getElem?_append_left (by rw [← h1]; exact hi)] at b
      exact (h3 i u q a b).off h2 (by intro xs z; cases z)
    · have ei : i = vs.length := by
        have := (List.getElem?_eq_some_iff.mp a).1
        simp at this
        omega
      subst ei
      have a' : some v = some u := by simpa using a
      have b' : some (y, (ts, g)) = some q := by rw [h1] at b; simpa using b
      cases a'
      cases b'
      exact s.off h2 (by intro xs z; cases z)
theorem pick_str {ss : List Str} {i : Nat} {x : V} (h : (ss.map V.str)[i]? = some x) : ∃ g, g ∈ ss ∧ x = .str g := by
  rw [List.getElem?_map] at h
  cases e : ss[i]? with
  | none => rw [e] at h; cases h
  | some g =>
    rw [e] at h
    exact ⟨g, List.mem_of_getElem? e, (Option.some.inj h).symm⟩
theorem cut_take {xs : List V} {j : Nat} : cutV xs none (some (j : Int)) = xs.take j := by
  unfold cutV
  rw [HT.sIx_none, HT.sIx_nat, List.drop_zero, Nat.sub_zero]
  by_cases h : j ≤ xs.length
  · rw [Nat.min_eq_left h]
  · rw [Nat.min_eq_right (by omega), List.take_length, List.take_of_length_le (by omega)]
def spLawNames : Sp := fun vs H Q _ => ∃ (d l c : Addr), vs = [.ref d, .int 4, .int 3] ∧ DrawAt H d l c ∧ ∀ (p : Addr) (nm : NmS) (H' : Hp), DrawAt H' d l c → But H H' d l → H p = none → NmsAt H' p nm → GoodNm nm → Q (.ref p) H'
theorem good_mono {ts : List Str} {g : Str} (h3 : ts.length ≤ 3) (hs : ∀ x ∈ ts, x ∈ sorts4) (hg : g ∈ sorts4) (hb : g = "box" → ts = []) : GoodS ts g := by
  have pl : ∀ x ∈ sorts4, plainD (.str x) = true := by decide +kernel
  unfold GoodS sortD
  have e1 : decide (3 < (ts.map PyData.str).length) = false := by
    rw [List.length_map]
    exact decide_eq_false (by omega)
  have e2 : (ts.map PyData.str).all plainD = true := by
    rw [List.all_map, List.all_eq_true]
    exact fun x hx => pl x (hs x hx)
  simp only [e1, e2, pl g hg, Bool.not_false, Bool.true_and]
  by_cases e : g = "box"
  · rw [hb e]
    simp
  · rw [beq_false_of_ne e]
    rfl
theorem ok_lawNames {f fS fT fP : Addr} {fd dS dT dP : FuncData} (F : Fun K "_law_names" "_law_names" sLawNames f fd) (mTu : mg "tuple" = none) (mRg : mg "range" = none)
    (GS : FnOk P w K mg base CX0 3 fS dS ["draw", "some"] spShuffled) (kS : PySem.W.keepIn K (.ref fS) = true) (bS : Binds K dS ["draw", "some"] []) (mS : mg "_law_shuffled" = some (.ref fS))
    (GT : FnOk P w K mg base CX0 2 fT dT ["draw", "amount"] spTake) (kT : PySem.W.keepIn K (.ref fT) = true) (bT : Binds K dT ["draw", "amount"] []) (mT : mg "_law_take" = some (.ref fT))
    (GP : FnOk P w K mg base CX0 3 fP dP ["draw", "some"] (spPick K)) (kP : PySem.W.keepIn K (.ref fP) = true) (bP : Binds K dP ["draw", "some"] []) (mP : mg "_law_pick" = some (.ref fP)) : FnOk P w K mg base CX0 4 f fd ["draw", "many", "most_args"] spLawNames := by
  refine F.ok scLawNames (fun vs H Q E h => ?_) (fun cdv A outer s H vs Q E hr h => ?_)
  · obtain ⟨d, l, c, rfl, _⟩ := h
    rfl
  · obtain ⟨d, l, c, rfl, D, k⟩ := h
    have nd := scLawNames.nd
    have hu := hu_of hr
    have hr2 := hr.mono (show 2 ≤ 3 by decide)
    refine ⟨_, pss_cons (ps_set (i := 3) nd rfl (Or.inl rfl) pe_dnewK)
      (pss_cons (ps_for PassesOwn.never rfl (pi_list (pe_slice sl_list (pe_call GS hr rfl mS kS bS .nil pass0 (pa_cons (pv 0) (pa_cons (pe_lst (pa_cons pe_str (pa_cons pe_str (pa_cons pe_str (pa_cons pe_str pa_nil))))) pa_nil))) po_none (po_some (pe_call GT hr2 rfl mT kT bT .nil pass0 (pa_cons (pv 0) (pa_cons (pe_op op_add (pv 1) pe_int) pa_nil))))))
          (pg_name (i := 4) nd rfl (Or.inl rfl))
        (pss_cons (ps_set (i := 5) nd rfl (Or.inl rfl) (pe_call GT hr2 rfl mT kT bT .nil pass0 (pa_cons (pv 0) (pa_cons pe_int pa_nil))))
        (pss_one (ps_if (pt_cmpR op_lt (pv 5) pe_int (nomark _))
          (pss_one (ps_dput hu (pv 3) (pv 4) (pe_tup (pa_cons (pe_tup pa_nil) (pa_cons (pe_call GP hr rfl mP kP bP .nil pass0 (pa_cons (pv 0) (pa_cons (pe_lst (pa_cons pe_str (pa_cons pe_str (pa_cons pe_str (pa_cons pe_str pa_nil))))) pa_nil))) pa_nil))) rfl))
          (pss_cons (ps_set (i := 6) nd rfl (Or.inl rfl) (pe_callTy call_tuple_of (by rfl) mTu (by decide +kernel) (pa_cons
              (pe_lc (own := [("k", 7)]) (g := gName 7) rfl nd (pi_range1 (by rfl) mRg (pa_cons (pe_call GT hr2 rfl mT kT bT .nil pass0 (pa_cons (pv 0) (pa_cons (pe_op op_add (pv 2) pe_int) pa_nil))) pa_nil)) (blkOk_by (N := lnN) (sc := defScope sLawNames) (by decide +kernel))
                (fun _ _ _ _ _ => pg_name (i := 7) nd rfl (Or.inl rfl)) (fun _ _ _ _ _ => pts_nil) (fun _ _ _ _ _ => pe_call GP hr rfl mP kP bP .nil pass0 (pa_cons (pv 0) (pa_cons (pe_lst (pa_cons pe_str (pa_cons pe_str (pa_cons pe_str (pa_cons pe_str pa_nil))))) pa_nil)))) pa_nil)))
          (pss_one (ps_dput hu (pv 3) (pv 4) (pe_tup (pa_cons (pv 6) (pa_cons (pe_call GP hr rfl mP kP bP .nil pass0 (pa_cons (pv 0) (pa_cons (pe_lst (pa_cons pe_str (pa_cons pe_str pa_nil))) pa_nil))) pa_nil))) rfl)))))))
      (pss_one (ps_ret (pv 3)))), ?_⟩
    -- found = {}
    intro p np
    have sp : Same H (upd H p (.dK [])) := fun b o e => by rw [upd_ne (ne_of_none e np)]; exact e
    obtain ⟨_, _, _, r0, t0, ls, cs, ed, el, ec, _⟩ := id D
    have pd : p ≠ d := (ne_of_none ed np).symm
    have pl : p ≠ l := (ne_of_none el np).symm
    have pc : p ≠ c := (ne_of_none ec np).symm
    have ep : (upd H p (.dK [])) p = some (.dK []) := upd_same
    have D1 := D.same sp
    have B1 : But H (upd H p (.dK [])) d l := But.same sp (But.refl _ _ _)
    generalize upd H p (.dK []) = H1 at sp ep D1 B1 ⊢
    -- the shuffled words, cut
    refine ⟨_, rfl, by show 4 ≤ sizeLine; decide, fun w4 nw4 => ?_⟩
    have s4 : Same H1 (upd H1 w4 (.lst (words4.map V.str))) := fun b o e => by rw [upd_ne (ne_of_none e nw4)]; exact e
    have e4 : (upd H1 w4 (.lst (words4.map V.str))) w4 = some (.lst (words4.map V.str)) := upd_same
    refine ⟨d, l, c, w4, words4, rfl, D1.same s4, e4, by decide, by decide +kernel, fun q zs H2 D2 B2 nq eq pm => ?_⟩
    have ep2 : H2 p = some (.dK []) := B2 _ _ (s4 _ _ ep) pd pl
    have B12 : But H H2 d l := (But.same s4 B1).trans B2
    have ed2 := D2.ex
    obtain ⟨_, _, ls2, cs2, ed2, el2, ec2, _⟩ := ed2
    have wd4 : w4 ≠ d := by
      obtain ⟨_, _, _, _, e1, _⟩ := D1.ex
      exact (ne_of_none e1 nw4).symm
    have wl4 : w4 ≠ l := by
      obtain ⟨_, _, _, _, _, e1, _⟩ := D1.ex
      exact (ne_of_none e1 nw4).symm
    have qd : q ≠ d := by
      obtain ⟨_, _, _, _, e1, _⟩ := (D1.same s4).ex
      exact (ne_of_none e1 nq).symm
    have ql : q ≠ l := by
      obtain ⟨_, _, _, _, _, e1, _⟩ := (D1.same s4).ex
      exact (ne_of_none e1 nq).symm
    refine ⟨_, rfl, _, rfl, _, _, rfl, rfl, d, l, c, 4 + 1, rfl, by decide, by decide, D2, fun n H3 n0 n5 D3 B3 => ⟨n, rfl, q, _, rfl, SqL.of (B3 _ _ eq qd ql), fun S nS => ?_⟩⟩
    obtain ⟨j, rfl⟩ := Int.eq_ofNat_of_zero_le n0
    rw [cut_take, ← List.map_take]
    have sS : Same H3 (upd H3 S (.lst ((zs.take j).map V.str))) := fun b o e => by rw [upd_ne (ne_of_none e nS)]; exact e
    have eS : (upd H3 S (.lst ((zs.take j).map V.str))) S = some (.lst ((zs.take j).map V.str)) := upd_same
    have D4 := D3.same sS
    have B4 : But H (upd H3 S (.lst ((zs.take j).map V.str))) d l := But.same sS (B12.trans B3)
    have ep4 := sS _ _ (B3 _ _ ep2 pd pl)
    have Sd : S ≠ d := by
      obtain ⟨_, _, _, _, e1, _⟩ := D3.ex
      exact (ne_of_none e1 nS).symm
    have Sl : S ≠ l := by
      obtain ⟨_, _, _, _, _, e1, _⟩ := D3.ex
      exact (ne_of_none e1 nS).symm
    have Sp : S ≠ p := (ne_of_none (B3 _ _ ep2 pd pl) nS).symm
    generalize upd H3 S (.lst ((zs.take j).map V.str)) = H4 at sS eS D4 B4 ep4 ⊢
    have zn : zs.Nodup := pm.nodup_iff.mpr (by decide +kernel)
    have zw : ∀ x ∈ zs, wordD (.str x) = true := fun x hx => by
      have all4 : ∀ x ∈ words4, wordD (.str x) = true := by decide +kernel
      exact all4 x (pm.mem_iff.mp hx)
    have wn : (zs.take j).Nodup := zn.sublist (List.take_sublist _ _)
    have wl : (zs.take j).length ≤ 4 := by
      have z4 : zs.length = 4 := pm.length_eq
      rw [List.length_take]
      omega
    have ww : ∀ x ∈ zs.take j, wordD (.str x) = true := fun x hx => zw x (List.mem_of_mem_take hx)
    generalize zs.take j = ws at eS wn wl ww ⊢
    refine ⟨S, rfl, ⟨_, SqL.of eS⟩, for_list (K := K) (a := S) (xs := ws.map V.str) (fun i σ H' => ∃ (nm : NmS) (v4 v5 v6 : Option V), σ = [some (.ref d), some (.int 4), some (.int 3), some (.ref p), v4, v5, v6, none] ∧ DrawAt H' d l c ∧ But H H' d l ∧ H' S = some (.lst (ws.map V.str)) ∧ NmsAt H' p nm ∧ nm.map Prod.fst = ws.take i ∧ ∀ q ∈ nm, GoodS q.2.1 q.2.2)
      ⟨[], none, none, none, rfl, D4, B4, eS, .nil ep4, rfl, fun q h => by cases h⟩ (fun i σ H' _ ⟨_, _, _, _, _, _, _, e, _⟩ => SqL.of e) ?_ ?_⟩
    · rintro i y0 σ H5 hy ⟨nm, v4, v5, v6, rfl, D5, B5, eS5, N5, en, gd⟩
      rw [List.getElem?_map] at hy
      cases ey : ws[i]? with
      | none => rw [ey] at hy; cases hy
      | some y =>
      rw [ey] at hy
      obtain rfl := Option.some.inj hy
      have nl : nm.length ≤ 4 := by
        have := congrArg List.length en
        rw [List.length_map, List.length_take] at this
        omega
      have new : y ∉ nm.map Prod.fst := by
        rw [en]
        intro z
        obtain ⟨m, hm, em⟩ := List.getElem_of_mem z
        rw [List.getElem_take] at em
        rw [List.length_take] at hm
        have hi := (List.getElem?_eq_some_iff.mp ey)
        obtain ⟨hi, ei⟩ := hi
        have := (List.getElem_inj (h₀ := by omega) (h₁ := hi) wn).mp (em.trans ei.symm)
        omega
      have nxt : ∀ ts g, GoodS ts g → (nm ++ [(y, (ts, g))]).map Prod.fst = ws.take (i + 1) ∧ ∀ q ∈ nm ++ [(y, (ts, g))], GoodS q.2.1 q.2.2 := fun ts g hg => by
        refine ⟨by rw [List.map_append, en, List.take_add_one, ey]; rfl, fun q hq => ?_⟩
        rcases List.mem_append.mp hq with h | h
        · exact gd q h
        · rw [List.mem_singleton] at h
          rw [h]
          exact hg
      -- way = _law_take(draw, 6)
      refine ⟨_, rfl, d, l, c, 6, rfl, by decide, by decide, D5, fun way H6 _ _ D6 B6 => ?_⟩
      have N6 := N5.but D5 B6 pd pl
      have eS6 := B6 _ _ eS5 Sd Sl
      have B06 := B5.trans B6
      refine ⟨_, rfl, _, _, rfl, rfl, _, rfl, ?_⟩
      refine ite2 (fun _ => ?_) (fun _ => ?_)
      · -- found[word] = ((), _law_pick(..))
        refine ⟨Nat.zero_le _, fun b nb => ?_⟩
        have sb : Same H6 (upd H6 b (.tup [])) := fun x o e => by rw [upd_ne (ne_of_none e nb)]; exact e
        have eb : (upd H6 b (.tup [])) b = some (.tup []) := upd_same
        generalize upd H6 b (.tup []) = H7 at sb eb ⊢
        refine ⟨_, rfl, by show 4 ≤ sizeLine; decide, fun u nu => ?_⟩
        have ud : u ≠ d := by
          obtain ⟨_, _, _, _, e1, _⟩ := (D6.same sb).ex
          exact (ne_of_none e1 nu).symm
        have ul : u ≠ l := by
          obtain ⟨_, _, _, _, _, e1, _⟩ := (D6.same sb).ex
          exact (ne_of_none e1 nu).symm
        have su : Same H7 (upd H7 u (.lst (sorts4.map V.str))) := fun x o e => by rw [upd_ne (ne_of_none e nu)]; exact e
        have eu : (upd H7 u (.lst (sorts4.map V.str))) u = some (.lst (sorts4.map V.str)) := upd_same
        have sbu := sb.trans su
        refine ⟨d, l, c, u, _, rfl, eu, ud, ul, by decide, by decide, D6.same sbu, fun ix x H9 hx D9 B9 => ?_⟩
        obtain ⟨g, hg, rfl⟩ := pick_str (ss := sorts4) hx
        have B69 : But H6 H9 d l := (But.same sbu (But.refl _ _ _)).trans B9
        have eb9 : H9 b = some (.tup []) := by
          obtain ⟨_, _, _, _, e1, e2, _⟩ := (D6.same sb).ex
          exact B9 _ _ (su _ _ eb) (ne_of eb e1 (by intro z; cases z)) (ne_of eb e2 (by intro z; cases z))
        refine ⟨by show 2 ≤ sizeLine; decide, fun t nt => ?_⟩
        have st : Same H9 (upd H9 t (.tup [.ref b, .str g])) := fun x o e => by rw [upd_ne (ne_of_none e nt)]; exact e
        have hs : SortAt (upd H9 t (.tup [.ref b, .str g])) (.ref t) [] g := ⟨t, b, rfl, upd_same, st _ _ eb9⟩
        have N10 := (N6.but D6 B69 pd pl).same st
        have D10 := D9.same st
        have B10 : But H (upd H9 t (.tup [.ref b, .str g])) d l := But.same st (B06.trans B69)
        have eS10 := st _ _ (B69 _ _ eS6 Sd Sl)
        generalize upd H9 t (.tup [.ref b, .str g]) = H10 at hs N10 D10 B10 eS10 ⊢
        have put := N10.put new hs (by omega)
        have gd' := nxt [] g (good_mono (by decide) (fun x h => by cases h) hg (fun _ => rfl))
        exact ⟨_, rfl, _, rfl, p, _, rfl, put.1, nm ++ [(y, ([], g))], _, _, _, rfl, D10.off pd pl pc, fun x o e h1 h2 => by rw [upd_ne (ne_of_none e np)]; exact B10 x o e h1 h2, by rw [upd_ne Sp]; exact eS10, put.2, gd'.1, gd'.2⟩
      · -- args_here = tuple([..])
        refine ⟨_, rfl, _, rfl, _, _, rfl, rfl, d, l, c, 3 + 1, rfl, by decide, by decide, D6, fun m H7 m0 m4 D7 B7 => ⟨m, rfl, by omega, by omega, fun Dl nDl => ?_⟩⟩
        have Dd : Dl ≠ d := by
          obtain ⟨_, _, _, _, e1, _⟩ := D7.ex
          exact (ne_of_none e1 nDl).symm
        have Dll : Dl ≠ l := by
          obtain ⟨_, _, _, _, _, e1, _⟩ := D7.ex
          exact (ne_of_none e1 nDl).symm
        have Dc : Dl ≠ c := by
          obtain ⟨_, _, _, _, _, _, e1, _⟩ := D7.ex
          exact (ne_of_none e1 nDl).symm
        have B07 := B06.trans B7
        have N7 := N6.but D6 B7 pd pl
        have eS7 := B7 _ _ eS6 Sd Sl
        refine lc_range (lo := 0) (n := m.toNat) (fun i H' => DrawAt H' d l c ∧ But H7 H' d l ∧ ∃ as : List Str, as.length = i ∧ (∀ x ∈ as, x ∈ sorts4) ∧ H' Dl = some (.lst (as.map V.str)))
          ⟨D7.off Dd Dll Dc, fun x o e _ _ => by rw [upd_ne (ne_of_none e nDl)]; exact e, [], rfl, fun x h => (List.not_mem_nil h).elim, upd_same⟩ ?_ ?_
        · rintro i2 H' hi2 ⟨D', B', as, la, ha, eD⟩
          refine ⟨rfl, ?_⟩
          refine ⟨_, rfl, by show 4 ≤ sizeLine; decide, fun u nu => ?_⟩
          have ud : u ≠ d := by
            obtain ⟨_, _, _, _, e1, _⟩ := D'.ex
            exact (ne_of_none e1 nu).symm
          have ul : u ≠ l := by
            obtain ⟨_, _, _, _, _, e1, _⟩ := D'.ex
            exact (ne_of_none e1 nu).symm
          have su : Same H' (upd H' u (.lst (sorts4.map V.str))) := fun x o e => by rw [upd_ne (ne_of_none e nu)]; exact e
          have eu : (upd H' u (.lst (sorts4.map V.str))) u = some (.lst (sorts4.map V.str)) := upd_same
          refine ⟨d, l, c, u, _, rfl, eu, ud, ul, by decide, by decide, D'.same su, fun ix x H9 hx D9 B9 => ?_⟩
          obtain ⟨g, hg, rfl⟩ := pick_str (ss := sorts4) hx
          refine ⟨_, B9 _ _ (su _ _ eD) Dd Dll, ?_, D9.off Dd Dll Dc, fun x o e h1 h2 => ?_, as ++ [g], by simp [la], fun x h => ?_, ?_⟩
          · rw [List.length_map, la]
            exact small1000 (by omega)
          · rw [upd_ne (ne_of_none e nDl)]
            exact B9 _ _ (su _ _ (B' x o e h1 h2)) h1 h2
          · rcases List.mem_append.mp h with h | h
            · exact ha x h
            · rw [List.mem_singleton] at h
              rw [h]
              exact hg
          · rw [upd_same, List.map_append]
            rfl
        · rintro H8 ⟨D8, B8, as, la, ha, eD⟩
          refine ⟨Dl, _, rfl, .inl ⟨SqL.of eD, fun b nb => ?_⟩⟩
          have sb : Same H8 (upd H8 b (.tup (as.map V.str))) := fun x o e => by rw [upd_ne (ne_of_none e nb)]; exact e
          have eb : (upd H8 b (.tup (as.map V.str))) b = some (.tup (as.map V.str)) := upd_same
          generalize upd H8 b (.tup (as.map V.str)) = H9 at sb eb ⊢
          have D9 := D8.same sb
          -- found[word] = (args_here, _law_pick(..))
          refine ⟨_, rfl, _, rfl, by show 2 ≤ sizeLine; decide, fun u nu => ?_⟩
          have ud : u ≠ d := by
            obtain ⟨_, _, _, _, e1, _⟩ := D9.ex
            exact (ne_of_none e1 nu).symm
          have ul : u ≠ l := by
            obtain ⟨_, _, _, _, _, e1, _⟩ := D9.ex
            exact (ne_of_none e1 nu).symm
          have su : Same H9 (upd H9 u (.lst (sorts2.map V.str))) := fun x o e => by rw [upd_ne (ne_of_none e nu)]; exact e
          have eu : (upd H9 u (.lst (sorts2.map V.str))) u = some (.lst (sorts2.map V.str)) := upd_same
          refine ⟨d, l, c, u, _, rfl, eu, ud, ul, by decide, by decide, D9.same su, fun ix x H10 hx D10 B10 => ?_⟩
          obtain ⟨g, hg, rfl⟩ := pick_str (ss := sorts2) hx
          have B710 : But H7 H10 d l := (B8.trans (But.same (sb.trans su) (But.refl _ _ _))).trans B10
          have eb10 : H10 b = some (.tup (as.map V.str)) := by
            obtain ⟨_, _, _, _, e1, e2, _⟩ := D9.ex
            exact B10 _ _ (su _ _ eb) (ne_of eb e1 (by intro z; cases z)) (ne_of eb e2 (by intro z; cases z))
          refine ⟨by show 2 ≤ sizeLine; decide, fun t nt => ?_⟩
          have st : Same H10 (upd H10 t (.tup [.ref b, .str g])) := fun x o e => by rw [upd_ne (ne_of_none e nt)]; exact e
          have hs : SortAt (upd H10 t (.tup [.ref b, .str g])) (.ref t) as g := ⟨t, b, rfl, upd_same, st _ _ eb10⟩
          have N11 := (N7.but D7 B710 pd pl).same st
          have D11 := D10.same st
          have B11 : But H (upd H10 t (.tup [.ref b, .str g])) d l := But.same st (B07.trans B710)
          have eS11 := st _ _ (B710 _ _ eS7 Sd Sl)
          generalize upd H10 t (.tup [.ref b, .str g]) = H11 at hs N11 D11 B11 eS11 ⊢
          have put := N11.put new hs (by omega)
          have gs : g ∈ sorts4 ∧ g ≠ "box" := by
            have z : ∀ x ∈ sorts2, x ∈ sorts4 ∧ x ≠ "box" := by decide +kernel
            exact z g hg
          have gd' := nxt as g (good_mono (by omega) ha gs.1 (fun z => absurd z gs.2))
          exact ⟨_, rfl, _, rfl, p, _, rfl, put.1, nm ++ [(y, (as, g))], _, _, _, rfl, D11.off pd pl pc, fun x o e h1 h2 => by rw [upd_ne (ne_of_none e np)]; exact B11 x o e h1 h2, by rw [upd_ne Sp]; exact eS11, put.2, gd'.1, gd'.2⟩
    · rintro σ H5 ⟨nm, v4, v5, v6, rfl, D5, B5, eS5, N5, en, gd⟩
      rw [List.length_map, List.take_length] at en
      refine ⟨_, rfl, k p nm H5 D5 B5 np N5 ⟨?_, fun q hq => ⟨?_, gd q hq⟩⟩⟩
      · have := congrArg List.length en
        rw [List.length_map] at this
        omega
      · exact ww _ (by rw [← en]; exact List.mem_map_of_mem hq)
end
end Jd
/-! A lambda as a value: made, tracked, called later in the frame's own time. -/
namespace Lm
open PySem PySem.Spec PyProof.Rows L2 LamX
/-- the object at f is the lambda of this text, with these cells and this code object -/
def LmO (f : Addr) (q : Str) (params : Arguments) (body : Expr) (scope : Scope) (cl : List (Str × Addr)) (c' : Addr) : HO :=
  .ext fun h => ∃ pm ctv : Value, h.get? f = some (PySem.W.kla_obj "<lambda>" q params body scope cl pm c' ctv)
section
variable {X : Cx} {pins : List (Addr × Obj)} {σ : L2.St} {H : Hp} {s : Shared}
theorem lmO_ok {P : Program} {w : World} {f c' : Addr} {q : Str} {params : Arguments} {body : Expr} {scope : Scope} {cl : List (Str × Addr)} {pm ctv : Value} {h : Heap} {H : Hp} (e : h.get? f = some (PySem.W.kla_obj "<lambda>" q params body scope cl pm c' ctv)) :
    ObjOk P w H h f (LmO f q params body scope cl c') := ⟨⟨pm, ctv, e⟩, ⟨_, e⟩, fun _ _ ⟨a, b, z⟩ st => ⟨a, b, st _ z⟩⟩
/-- made and tracked -/
theorem lam_track {T : List (Addr × Str)} {c P : Addr} {params : Arguments} {body : Expr} {scope : Scope} {pos : Pos} {E : Value → Shared → Prop} {Q : Value → Shared → Prop} (I : Inv X pins σ H s) (TB : TabB X.base X.mg c P) (hcode : X.env.code = .ref c)
    (hm : (P, X.env.qual ++ "<lambda>") ∈ T) (hu : ∀ p ∈ T, p.1 = P → p.2 = X.env.qual ++ "<lambda>") (hT : Tabs T H) (hdef : defaultsOf params X.env = ([], [])) (hfree : ∀ y ∈ scope.names, y.2 = .free → ∃ c, X.env.cells.lookup y.1 = some c)
    (h : ∀ (f c' : Addr) (H1 : Hp) (s' : Shared), Inv X pins σ (upd H1 f (LmO f (X.env.qual ++ "<lambda>") params body scope (cloFrom X.env.cells scope.names []) c')) s' → ExtN H H1 → Tabs T H1 → H1 f = none → H1 c' = some (CodeO c' (X.env.qual ++ "<lambda>")) → Q (.ref f) s') :
    wpAny (model X.prog X.w) X.A (eval (.Lambda params body scope pos) X.env) Q E s := by
  obtain ⟨ps, hP, ht, ha⟩ := hT _ hm
  refine PySem.W.kla_eval hdef ?_
  have bP : s.heap.BuiltinsAt X.mg P := TB.bm.keeps I.bk
  have aP : s.heap.get? P = some { cls := .none, data := .fields ps } := I.hok P _ hP
  have tracked : ∀ {H1 : Hp} {h' : Heap} {tk tk' : Nat} {c' : Addr} {ctv : Value}, Inv X pins σ H1 { s with heap := h', toks := tk } →
      Inv X pins σ (upd H1 h'.objs.size (LmO h'.objs.size (X.env.qual ++ "<lambda>") params body scope (cloFrom X.env.cells scope.names []) c'))
        { s with heap := h'.push (PySem.W.kla_obj "<lambda>" (X.env.qual ++ "<lambda>") params body scope (cloFrom X.env.cells scope.names []) ((X.mg "__name__").getD .none) c' ctv), toks := tk' } := fun I1 =>
    I1.laid (fun b u e => Heap.get?_push_of_some _ e) (Nat.le_refl _) (lmO_ok (Heap.get?_push_size _ rfl))
  cases hc : codeAmong pos ps.toList with
  | none =>
    refine PySem.W.kla_makeFunction (mg := X.mg) (c := c) (P := P) (ps := ps) (closure_ok hfree) I.ok.glob (I.mod.glob.keeps I.bk) hcode (TB.code.keeps I.bk) aP ht hc TB.gP bP fun c' ctv h' tk hx hge hlt hrec htb => ?_
    obtain ⟨c2, oc, vs, t, e2, hoc, hd, hv⟩ := hrec
    cases e2
    have nC : H c' = none := I.hok.fresh hge
    have I1 := inv_table (t' := tk) (more := #[rawInt pos.line, rawInt pos.col, .ref c']) (h' := h') I hP (fun b o hb e => hx b o hb e) htb hge ⟨oc, vs, t, hoc, hd, hv⟩
    have stay : ExtN H (upd (upd H P (.tbl (ps ++ #[rawInt pos.line, rawInt pos.col, .ref c']))) c' (CodeO c' (X.env.qual ++ "<lambda>"))) := fun b o e n => by
      by_cases bc : b = c'
      · rw [bc, nC] at e
        cases e
      by_cases bp : b = P
      · rw [bp, hP] at e
        exact absurd (Option.some.inj e).symm (n ps)
      · rw [upd_ne bc, upd_ne bp]
        exact e
    refine h h'.objs.size c' _ _ (tracked I1) stay (fun p hp => ?_) (I1.hok.fresh (Nat.le_refl _)) upd_same
    by_cases hb : p.1 = P
    · rw [hu p hp hb, hb]
      have el : (ps ++ #[rawInt pos.line, rawInt pos.col, .ref c']).toList = ps.toList ++ [rawInt pos.line, rawInt pos.col, .ref c'] := by simp
      refine ⟨_, by rw [upd_ne (ne_of_none hP nC), upd_same], by rw [el]; exact PySem.TriplesOk_snoc _ _ _ _ ht, fun pc cv hcv => ?_⟩
      rw [el] at hcv
      rcases among_app _ ht hcv with z | z
      · obtain ⟨c0, e1, e2⟩ := ha pc cv z
        exact ⟨c0, e1, stay _ _ e2 codeO_ne⟩
      · exact ⟨c', z, upd_same⟩
    · obtain ⟨qs, a1, a2, a3⟩ := hT p hp
      refine ⟨qs, by rw [upd_ne (ne_of_none a1 nC), upd_ne hb]; exact a1, a2, fun pc cv hcv => ?_⟩
      obtain ⟨c0, e1, e2⟩ := a3 pc cv hcv
      exact ⟨c0, e1, stay _ _ e2 codeO_ne⟩
  | some cv =>
    obtain ⟨c', e, hco⟩ := ha pos cv hc
    subst e
    refine PySem.W.kla_makeFunctionHit (mg := X.mg) (c := c) (P := P) (ps := ps) (closure_ok hfree) I.ok.glob (I.mod.glob.keeps I.bk) hcode (TB.code.keeps I.bk) aP ht hc bP fun ctv h' tk hx hsz => ?_
    have I1 : Inv X pins σ H { s with heap := h', toks := tk } := I.kept fun b o e => hx b o e
    exact h h'.objs.size c' H _ (tracked I1) (ExtN.refl H) hT (I.hok.fresh hsz) hco
/-- what is tracked by its look alone may be forgotten -/
theorem forget {a : Addr} {φ : Heap → Prop} (I : Inv X pins σ H s) (ha : H a = some (.ext φ)) : Inv X pins σ (delH H a) s := by
  have off : ∀ b o, H b = some o → (∀ ψ, o ≠ .ext ψ) → delH H a b = some o := fun b o e n => by
    by_cases ba : b = a
    · rw [ba, ha] at e
      exact absurd (Option.some.inj e).symm (n φ)
    · rw [delH_ne ba]
      exact e
  have none_ : ∀ b, H b = none → delH H a b = none := fun b e => by
    by_cases ba : b = a
    · rw [ba, delH_same]
    · rw [delH_ne ba]
      exact e
  refine ⟨I.ok, I.os, I.bare, ⟨I.base.keep, I.base.slot, fun b o e n hx => none_ b (I.base.free b o e n hx), I.base.there, fun b xs e => off _ _ (I.base.tups b xs e) (by intro ψ z; cases z), fun b o u e => off _ _ (I.base.frzs b o u e) (by intro ψ z; cases z), fun b ps e => ?_⟩,
    I.loc, I.cell, none_ _ I.free, fun x c e => none_ _ (I.freeC x c e), fun p hp => ?_, fun b o e => ?_, I.len⟩
  · obtain ⟨m, q⟩ := I.base.tbls b ps e
    exact ⟨m, off _ _ q (by intro ψ z; cases z)⟩
  · obtain ⟨h1, h2, h3⟩ := I.pin p hp
    exact ⟨h1, none_ _ h2, h3⟩
  · have ba : b ≠ a := fun z => by
      rw [z, delH_same] at e
      cases e
    rw [delH_ne ba] at e
    exact (I.hok b o e).stay (fun c u _ q => q) (fun c q => off _ _ q (by intro ψ z; cases z)) fun c xs q => off _ _ q (by intro ψ z; cases z)
/-- what is tracked is no frame's record -/
theorem off_frames {a : Addr} {o : HO} (I : Inv X pins σ H s) (ha : H a = some o) : a ∉ frs X.stack := fun z => by
  rcases List.mem_cons.mp (I.stkSub _ z) with e | e
  · have q := I.free
    rw [← e, ha] at q
    cases q
  · obtain ⟨_, ob, ho, _⟩ := I.ok.funs.mem e
    have q := I.base.free a ob ho (I.ok.frf a e) (fun hx => I.ok.exfs a hx e)
    rw [ha] at q
    cases q
/-- one of several texts of lambdas: parameters, body, scope, how the body is read -/
abbrev Text := Arguments × Expr × Scope × (XK → TE)
/-- x(w), w a variable that holds one of these lambdas, made in this frame -/
def tLamVar (X : Cx) (j : Nat) (B : List Text) (TT : (XK → Hp → VK → Prop) → Hp → VK → Prop) : TE := fun σ H Q => ∃ (f c' : Addr) (e : Text), σ[j]? = some (some (.ref f)) ∧ e ∈ B ∧
  H f = some (LmO f (X.env.qual ++ "<lambda>") e.1 e.2.1 e.2.2.1 (cloFrom X.env.cells e.2.2.1.names []) c') ∧ H c' = some (CodeO c' (X.env.qual ++ "<lambda>")) ∧ TT (fun E H' Q' => e.2.2.2 E σ H' Q') (delH H f) Q
/-- what is asked of each of the texts -/
structure TextOk (X : Cx) (k : Nat) (e : Text) : Prop where
  sc : LamS X.env.scope e.2.2.1
  bind : ∀ (q : Str) (cl : List (Str × Addr)) (pm cv ctv : Value), bindArgs (PySem.W.kla_fn "<lambda>" q e.1 e.2.1 e.2.2.1 cl pm cv ctv) ⟨[], []⟩ = pure []
  body : ∀ (A : Around) (outer : List Env) (s : Shared) (H : Hp) (E : XK) (f c' : Addr), Room k (A.deeper (lamEnv X e.2.2.1 s.heap.objs.size f c')) → PE (lamCx X A outer s H E e.2.2.1 f c') e.2.1 (e.2.2.2 E)
theorem pe_lamvar {TT : (XK → Hp → VK → Prop) → Hp → VK → Prop} {x a y : Str} {g : Addr} {k j : Nat} {pg : Arguments} {bg : List Stmt} {sg : Scope} {dV kV doc pm cdv ct oc : Value} {an od : Option Addr} {osl : Array (Option Value)} {Ng : List Str} {B : List Text} {p p2 pos : Pos}
    (hg : Gl X x) (hm : X.mg x = some (.ref g)) (hk : PySem.W.keepIn X.K (.ref g) = true) (lk : X.K.lookup g = some ⟨oc, od, .func (PySem.W.fnOf x x pg bg sg dV kV doc pm an cdv ct), osl⟩) (hcg : PySem.W.codeIn X.K cdv x = true)
    (hb : L2.Binds X.K (PySem.W.fnOf x x pg bg sg dV kV doc pm an cdv ct) [a] []) (Sg : FnScope Ng [a] sg) (hNg : Ng[0]? = some a) (hva : Vis sg a) (hG : GivesTo X Ng x sg g cdv bg a (X.env.qual ++ "<lambda>") TT) (hy : PE X (.Name y p2) (tVar j)) (hr : Room (k + 2) X.A) (hB : ∀ e ∈ B, TextOk X k e)
    (na : starEach [.Name y p2] X.env = (false, eval (.Name y p2) X.env) :: starEach [] X.env := by rfl) (hdb : (x == ("__debug__" : Str)) = false := by decide) (hd : (a == ("__debug__" : Str)) = false := by decide) (hcd : (a == ("__classdict__" : Str)) = false := by decide) :
    PE X (.Call (.Name x p) [.Name y p2] [] pos) (tLamVar X j B TT) := by
  refine ⟨fun pins s σ H Q I h => ?_⟩
  obtain ⟨f, c', e, hσ, he, hf, hco, ht⟩ := h
  have O := hB e he
  refine wpAny_Call_Name_kw (ld_glob I hg hm ?_ hdb)
  refine PySem.W.callWith_K (h₀ := X.base) I.ok.mod.kin hk ?_ na (by rfl)
  rw [na]
  refine Calls.spliced_cons (thn (hy.run pins s σ H (fun v H1 => v = .ref f ∧ H1 = H) I ⟨_, hσ, rfl, rfl⟩) fun u s1 ⟨v, H1, I1, r1, ev, eH⟩ => ?_)
  subst ev eH
  obtain rfl : u = Value.ref f := r1
  refine Calls.spliced_nil ⟨I1.kIn, ?_⟩
  obtain ⟨⟨pm', ctv, of1⟩, _, _⟩ := I1.hok f _ hf
  have ne : c' ≠ f := fun z => by
    obtain ⟨⟨oc2, vs, t, h1, h2, _⟩, _, _⟩ := I1.hok c' _ hco
    rw [z, of1] at h1
    cases h1
    cases h2
  have I2 := forget I1 hf
  have hco2 : delH H1 f c' = some (CodeO c' (X.env.qual ++ "<lambda>")) := by rw [delH_ne ne]; exact hco
  have out : codeAny (model X.prog X.w) X.A (.call (.ref g) ⟨[.ref f], []⟩) (CR C8.CX0 X.stack X.prog X.w (delH H1 f) s1 Q C8.E0) s1 := by
    refine run_ofS (N := Ng) (ps := [a]) (us := [.ref f]) (vs := [.ref f]) lk hcg Sg hr I2.env0 (hb s1 [.ref f] I2.kIn rfl) (.cons rfl .nil) rfl fun hr' => ?_
    obtain ⟨t', h1, h2⟩ := hG f c' s1 (delH H1 f) Q (fun E H' Q' => e.2.2.2 E σ H' Q')
      (fun W pn xe E p1 p2 tk hW => pe_act (i := 0) I2 O.sc of1 delH_same (off_frames I1 hf) (O.bind _ _ _ _ _) tk hW hr' (fun A outer s H hr2 => O.body A outer s H E f c' hr2) hNg hva hd hcd) hco2 ht
    exact ⟨t', h1.nox, h2⟩
  refine wpAny_call (codeAny_mono out fun r s2 hq => ?_)
  cases r with
  | error er => exact (show False from hq).elim
  | ok fl =>
    cases fl with
    | ret u2 => exact I2.after hq
    | next => exact False.elim hq
    | brk => exact False.elim hq
    | cont => exact False.elim hq
/-- a lambda as a value -/
def tLamE (X : Cx) (T : List (Addr × Str)) (params : Arguments) (body : Expr) (scope : Scope) : TE := fun σ H Q => Tabs T H ∧ ∀ (f c' : Addr) (H1 : Hp), ExtN H H1 → Tabs T H1 → H1 f = none → H1 c' = some (CodeO c' (X.env.qual ++ "<lambda>")) →
  Q (.ref f) (upd H1 f (LmO f (X.env.qual ++ "<lambda>") params body scope (cloFrom X.env.cells scope.names []) c'))
theorem pe_lamE {T : List (Addr × Str)} {c P : Addr} {params : Arguments} {body : Expr} {scope : Scope} {pos : Pos} (TB : TabB X.base X.mg c P) (hcode : X.env.code = .ref c) (hm : (P, X.env.qual ++ "<lambda>") ∈ T) (hu : ∀ p ∈ T, p.1 = P → p.2 = X.env.qual ++ "<lambda>")
    (hdef : defaultsOf params X.env = ([], [])) (L : LamS X.env.scope scope) : PE X (.Lambda params body scope pos) (tLamE X T params body scope) := by
  refine ⟨fun pins s σ H Q I h => ?_⟩
  obtain ⟨hT, h⟩ := h
  exact lam_track I TB hcode hm hu hT hdef (L.has I.ok) fun f c' H1 s' I1 eN T1 n1 hco => ⟨.ref f, _, I1, rfl, h f c' H1 eN T1 n1 hco⟩
end
end Lm
/-! A caught error that outlives its suite: tracked by its look from the clause on. -/
namespace L2
open PySem PySem.Spec PyProof.Rows
/-- at a stands an error that flew: of this class, with this dict -/
def ErrO (cls : Value) (d : Option Addr) (a : Addr) : HO := .ext fun h => ∃ (oe : Obj) (vs : Array Value), h.get? a = some oe ∧ Zc cls d oe ∧ oe.data = .fields vs
theorem errO_ok {P : Program} {w : World} {a : Addr} {cls : Value} {d : Option Addr} {oe : Obj} {vs : Array Value} {h : Heap} {H : Hp} (e : h.get? a = some oe) (z : Zc cls d oe) (f : oe.data = .fields vs) : ObjOk P w H h a (ErrO cls d a) :=
  ⟨⟨oe, vs, e, z, f⟩, ⟨oe, e⟩, fun _ _ ⟨o, v, q, r⟩ st => ⟨o, v, st _ q, r⟩⟩
section
variable {X : Cx} {pins : List (Addr × Obj)} {σ : St} {H : Hp} {s : Shared}
/-- an object of ours that nobody tracks is tracked from now on -/
theorem Inv.track {a : Addr} {o : HO} (I : Inv X pins σ H s) (na : H a = none) (n0 : X.s_0.heap.get? a = none) (np : ∀ p ∈ X.pn ++ pins, p.1 ≠ a) (nL : X.env.locals ≠ a) (nC : ∀ x c, X.env.cells.lookup x = some c → c ≠ a)
    (ob : ObjOk X.prog X.w (upd H a o) s.heap a o) : Inv X pins σ (upd H a o) s := by
  have old : ∀ b u, H b = some u → upd H a o b = some u := fun b u e => (upd_ne (ne_of_none e na)).trans e
  have oth : ∀ b u, X.s_0.heap.get? b = some u → upd H a o b = H b := fun b u e => upd_ne fun z => by
    rw [z, n0] at e
    cases e
  refine { ok := I.ok, os := I.os, bare := I.bare, loc := I.loc, cell := I.cell, len := I.len, free := (upd_ne nL).trans I.free, freeC := fun x c e => (upd_ne (nC x c e)).trans (I.freeC x c e), base := ?_, pin := fun p hp => ?_, hok := fun b u e => ?_ }
  · exact ⟨I.base.keep, I.base.slot, fun b u e n x => (oth b u e).trans (I.base.free b u e n x), I.base.there, fun b xs e => old b _ (I.base.tups b xs e), fun b u w e => old b _ (I.base.frzs b u w e), fun b ps e => by
      obtain ⟨m, q⟩ := I.base.tbls b ps e
      exact ⟨m, old b _ q⟩⟩
  · obtain ⟨p1, p2, p3⟩ := I.pin p hp
    exact ⟨p1, (upd_ne (np p hp)).trans p2, p3⟩
  · by_cases ba : b = a
    · subst ba
      rw [upd_same] at e
      cases e
      exact ob
    · rw [upd_ne ba] at e
      exact (I.hok b u e).stay (fun _ _ _ q => q) (fun c q => old c _ q) fun c xs q => old c _ q
/-- into a suite, the error being tracked -/
theorem Inv.suiteT (I : Inv X pins σ H s) (a : Addr) : Inv (X.suite a (X.pn ++ pins)) [] σ H s :=
  { ok := I.ok.suite a _, os := I.os, bare := I.bare, base := I.base, loc := I.loc, cell := I.cell, free := I.free, freeC := I.freeC, pin := fun p hp => I.pin p (by rw [List.append_nil] at hp; exact hp), hok := I.hok, len := I.len }
theorem Inv.unsuiteT {a : Addr} {ps : List (Addr × Obj)} (ok : X.Ok) (I : Inv (X.suite a (X.pn ++ pins)) ps σ H s) : Inv X pins σ H s :=
  { ok := ok, os := I.os, bare := I.bare, base := I.base, loc := I.loc, cell := I.cell, free := I.free, freeC := I.freeC, pin := fun p hp => I.pin p (List.mem_append.mpr (.inl hp)), hok := I.hok, len := I.len }
end
/-- what 'except x as n' wishes, all errors of the body being of x: slot i is n's, the error stays -/
def wKeep (K : PySem.W.Frag) (c : Value) (i m : Nat) (ts : Addr → Value → Option Addr → TS) (D : Ends) : WX := fun cls d σ H =>
  PySem.W.exmOne K cls c = some true ∧ ∀ a, H a = none → σ.length = m → ts a cls d { nx := fun σ' H' => D.nx (σ'.set i none) H', rt := fun v H' => False, bk := fun _ _ => False, ct := fun _ _ => False } (σ.set i (some (.ref a))) (upd H a (ErrO cls d a))
section
variable {X : Cx} {x n : Str} {c : Value} {i : Nat} {body suite : List Stmt} {st₀ : Stmt} {p1 p2 p3 : Pos} {tb : WX → TS} {ts : Addr → Value → Option Addr → TS}
theorem ps_try_keep (hs : X.stack = X.env :: X.outer) (hf : X.env.frame = some X.env.locals) (hex : X.ex = []) (hN : X.N.Nodup) (hi : X.N[i]? = some n) (hl : X.env.kindOf n = some .local) (hc : Names X x c)
    (hb : ∀ (W : WX) (pn : List (Addr × Obj)) (xe : Value → Shared → Prop), Takes (X.tr pn xe) W → PSs (X.tr pn xe) body (tb W))
    (hsu : ∀ (a : Addr) (cls : Value) (d : Option Addr) (pn : List (Addr × Obj)), PSs (X.suite a pn) (st₀ :: suite) (ts a cls d)) :
    PS X (.Try body [.ExceptHandler (some (.Name x p1)) (some n) (st₀ :: suite) p2] [] [] p3) (fun D σ H => tb (wKeep X.K c i X.N.length ts D) D σ H) := by
  refine ⟨fun pins s σ H D I h => ?_⟩
  have ok := I.ok
  have frm : X.A.frames = some (X.env :: X.outer) := by rw [ok.frames, hs]
  refine wpAny_Try_except ?_
  have run := (hb (wKeep X.K c i X.N.length ts D) (X.pn ++ pins)
    (fun er sa => wpAny (model X.prog X.w) X.A (noteFrame er X.env)
      (fun _ sb => wpAny (model X.prog X.w) X.A (setFlight er none)
        (fun _ sc => wpAny (model X.prog X.w) X.A (handleBy er X.env [.ExceptHandler (some (.Name x p1)) (some n) (st₀ :: suite) p2]) (SP X pins D) X.xe sc) X.xe sb) X.xe sa)
    (fun u s' air => ?_)).run [] s σ H D (I.toTry _) h
  · refine wpAny_mono run (fun f s1 e1 => ?_) fun _ _ z => z
    cases f with
    | next => exact wpAny_execs_nil (by obtain ⟨σ1, H1, J, q⟩ := e1; exact ⟨σ1, H1, J.ofTry ok, q⟩)
    | brk => obtain ⟨σ1, H1, J, q⟩ := e1; exact ⟨σ1, H1, J.ofTry ok, q⟩
    | cont => obtain ⟨σ1, H1, J, q⟩ := e1; exact ⟨σ1, H1, J.ofTry ok, q⟩
    | ret w => obtain ⟨v, σ1, H1, J, r, q⟩ := e1; exact ⟨v, σ1, H1, J.ofTry ok, r, q⟩
  · obtain ⟨a, B, sI, qs, σ1, H1, cls, d, rfl, J0, ground, slots, sky, na, eos, bare, is, goes⟩ := air
    have J := J0.ofTry ok
    rw [show (X.tr (X.pn ++ pins) _).stack = X.env :: X.outer from hs] at sky
    refine Sky.land Zc.steady frm hf sky fun h3 fl3 up3 => ?_
    have I3 : Inv X pins σ1 H1 { s' with heap := h3 } := J.landed ground fl3.1 (slots.trans up3) eos bare
    obtain ⟨oe, vs, at3, z3, f3⟩ := fl3.there
    have off : a ∉ frs (X.env :: X.outer) := fun hm => by
      obtain ⟨_, o, e, nf⟩ := fl3.2.2.1.mem hm
      rw [at3] at e
      cases e
      exact nf _ f3
    have nB : ∀ b o, sI.heap.get? b = some o → b ∉ frs X.stack → b ≠ a := fun b o e nm z => by
      have q := ground b o e nm
      rw [z, fl3.2.1] at q
      cases q
    have nL : X.env.locals ≠ a := fun z => off (List.mem_filterMap.mpr ⟨X.env, List.mem_cons_self, by rw [hf, z]⟩)
    have n0 : X.s_0.heap.get? a = none := by
      cases e : X.s_0.heap.get? a with
      | none => rfl
      | some o =>
        obtain ⟨o', e'⟩ := J.base.there a o e (by rw [hex]; simp)
        exact absurd rfl (nB a o' e' (by rw [hs]; exact off))
    have np : ∀ p ∈ X.pn ++ pins, p.1 ≠ a := fun p hp => by
      obtain ⟨e, _, n1, n2, _⟩ := J.pin p hp
      exact nB p.1 p.2 e fun hm => (List.mem_cons.mp (J.stkSub _ hm)).elim n1 n2
    have nC : ∀ (s2 : Shared) (H2 : Hp) (o : Obj) (ws : Array Value), Inv X pins σ1 H2 s2 → s2.heap.get? a = some o → o.data = .fields ws → ∀ y c, X.env.cells.lookup y = some c → c ≠ a := fun s2 H2 o ws K e f y c hc z => by
      obtain ⟨v, o', e', f'⟩ := K.cell y c hc
      rw [z, e] at e'
      cases e'
      rw [f] at f'
      cases f'
    have T3 := (I3.track na n0 np nL (nC _ _ _ _ I3 at3 f3) (errO_ok at3 z3 f3)).suiteT a
    refine wpAny_handleBy_cons (codeAny_handlers_test ?_) (by intro q; cases q)
    have kind : PySem.W.Looks (model X.prog X.w) h3 (typeOf (.ref a)) cls := fun A Q E s k q => wpAny_typeOf_ref (k _ _ at3) (by rw [z3.1]; exact q)
    have fits := PySem.W.exm_one (M := model X.prog X.w) I3.kIn kind is
    have named : ∀ {Q E : Value → Shared → Prop}, Q c { s' with heap := h3 } → wpAny (model X.prog X.w) (X.A.mark (some (.ref a))) (eval (.Name x p1) X.env) Q E { s' with heap := h3 } := fun {Q E} q => by
      obtain ⟨hg, hd, hm | ⟨hm, hv, hn⟩⟩ := hc
      · exact ld_glob (X := X.suite a (X.pn ++ pins)) T3 hg hm q hd
      · exact ld_blt (X := X.suite a (X.pn ++ pins)) T3 hg hm hv q hn hd
    refine named (fits.here (codeAny_handlers_suite_as ?_))
    refine HandSPX.lands_againZ fl3 fun h4 fl4 up4 => ?_
    have I4 : Inv X pins σ1 H1 { s' with heap := h4 } := J.landed ground fl4.1 ((slots.trans up3).trans up4) eos bare
    obtain ⟨oe4, vs4, at4, z4, f4⟩ := fl4.there
    have T4 := (I4.track na n0 np nL (nC _ _ _ _ I4 at4 f4) (errO_ok at4 z4 f4)).suiteT a
    refine store_ok (X := X.suite a (X.pn ++ pins)) (v := .ref a) T4 hN hi (.inl hl) rfl (fun s5 S5 => ?_) (.inr hl)
    refine wpAny_mono ((hsu a cls d (X.pn ++ pins)).run [] s5 _ _ _ S5 (goes a na J.len)) (fun f s6 e6 => ?_) fun _ _ z => False.elim z
    cases f with
    | next =>
      obtain ⟨σ6, H6, S6, q6⟩ := e6
      exact gone_ok (S6.unsuiteT ok) hN hi hl fun s7 J7 => ⟨_, _, J7, q6⟩
    | brk => obtain ⟨_, _, _, q6⟩ := e6; exact False.elim q6
    | cont => obtain ⟨_, _, _, q6⟩ := e6; exact False.elim q6
    | ret w => obtain ⟨_, _, _, _, _, q6⟩ := e6; exact False.elim q6
end
end L2
/-! What is asked of a caught error that is kept: its class, its field; `_law_caught` given a lambda. -/
namespace L2
open PySem PySem.Spec PyProof.Rows LamX
section
variable {X : Cx} {pins : List (Addr × Obj)} {σ : St} {H : Hp} {s : Shared} {a C : Addr}
/-- a caught error of the class at C stands at a: without, or with, a dict of its own -/
def IsGot (H : Hp) (a C : Addr) : Prop := H a = some (ErrO (.ref C) none a) ∨ ∃ (d : Addr) (pn : Str) (v : V), H a = some (ErrO (.ref C) (some d) a) ∧ H d = some (.xd [(pn, v)])
theorem got_inst0 {oe : Obj} {vs : Array Value} {h : Heap} (e : h.get? a = some oe) (z : Zc (.ref C) none oe) (f : oe.data = .fields vs) : PySem.W.InstAt h a oe C none := by
  obtain ⟨oc, odi, oda, osl⟩ := oe
  obtain ⟨z1, z2⟩ := z
  dsimp only at z1 z2 f
  subst z1 z2 f
  exact ⟨e, rfl, rfl, trivial⟩
theorem got_inst1 {d : Addr} {o : Obj} {oe : Obj} {vs : Array Value} {h : Heap} (e : h.get? a = some oe) (z : Zc (.ref C) (some d) oe) (f : oe.data = .fields vs) (hd : h.get? d = some o) : PySem.W.InstAt h a oe C (some o) := by
  obtain ⟨oc, odi, oda, osl⟩ := oe
  obtain ⟨z1, z2⟩ := z
  dsimp only at z1 z2 f
  subst z1 z2 f
  exact ⟨e, rfl, rfl, hd⟩
theorem IsGot.inst (I : Inv X pins σ H s) (e : IsGot H a C) : ∃ (ox : Obj) (od : Option Obj), PySem.W.InstAt s.heap a ox C od := by
  rcases e with e | ⟨d, pn, v, e, ed⟩
  · obtain ⟨⟨oe, vs, ho, z, f⟩, _, _⟩ := (show ObjOk X.prog X.w H s.heap a (ErrO (.ref C) none a) from I.hok a _ e)
    exact ⟨oe, none, got_inst0 ho z f⟩
  · obtain ⟨⟨oe, vs, ho, z, f⟩, _, _⟩ := (show ObjOk X.prog X.w H s.heap a (ErrO (.ref C) (some d) a) from I.hok a _ e)
    obtain ⟨mA, ⟨o, es, ep, h1, _⟩, _⟩ := (show ObjOk X.prog X.w H s.heap d (.xd [(pn, v)]) from I.hok d _ ed)
    exact ⟨oe, some o, got_inst1 ho z f h1⟩
/-- isinstance(e, c), e a caught error -/
def rIsG (K : PySem.W.Frag) : List V → Hp → VK → Prop := fun xs H Q => ∃ (a C : Addr) (c : V) (cv : Value) (b : Bool), xs = [.ref a, c] ∧ IsGot H a C ∧ ExcC K C ∧ (∀ u, RelV c u → u = cv) ∧ PySem.W.kitOne K (.ref C) cv = some b ∧ Q (.bl b) H
theorem call_isG : CallR X (.builtin "isinstance") (rIsG X.K) := by
  intro pins s σ H xs us Q I r h
  obtain ⟨a, C, c, cv, b, rfl, he, T, hcv, e, q⟩ := h
  cases r with
  | cons rx rr =>
    cases rr with
    | cons rt rr =>
      cases rr
      cases rx
      obtain rfl := hcv _ rt
      obtain ⟨ox, od, J⟩ := he.inst I
      have isC : (PySem.W.clsIn X.K C).isSome = true := by
        have q := T.hd
        unfold PySem.W.hasDictIn at q
        cases z : PySem.W.clsIn X.K C with
        | some _ => rfl
        | none => rw [z] at q; cases q
      exact PySem.W.kia_one (PySem.W.kitx_exc (od := od) isC T.hg T.hk T.hs T.ha T.hn T.ht T.hm) I.kIn J e (fun z => nomatch z) fun tk => ⟨.bl b, H, I.kept (t' := tk) fun _ _ z => z, rfl, q⟩
/-- e.pn, e a caught error with that field -/
def tGotFld (K : PySem.W.Frag) (pn : Str) (te : TE) : TE := fun σ H Q => te σ H fun x H1 => ∃ (a C d : Addr) (v : V), x = .ref a ∧ H1 a = some (ErrO (.ref C) (some d) a) ∧ H1 d = some (.xd [(pn, v)]) ∧ ExcC K C ∧ PySem.W.findIn K (.ref C) pn = some none ∧ Q v H1
theorem pe_gotFld {e : Expr} {te : TE} {pn : Str} {pos : Pos} (he : PE X e te) (hb : attributeBase e pn X.env (eval e X.env) = eval e X.env := by rfl) : PE X (.Attribute e pn pos) (tGotFld X.K pn te) := by
  refine ⟨fun pins s σ H Q I h => ?_⟩
  refine attr_of hb (thn (he.run pins s σ H _ I h) fun u s1 hh => ?_)
  obtain ⟨x, H1, I1, rx, a, C, d, v, rfl, ea, ed, T, hno, q⟩ := hh
  obtain rfl : u = Value.ref a := rx
  obtain ⟨⟨oe, vs, ho, z, f⟩, _, _⟩ := (show ObjOk X.prog X.w H1 s1.heap a (ErrO (.ref C) (some d) a) from I1.hok a _ ea)
  obtain ⟨mA, hns, hr⟩ := (show ObjOk X.prog X.w H1 s1.heap d (.xd [(pn, v)]) from I1.hok d _ ed)
  obtain ⟨od, hod, hl⟩ := lookIn_ns hns
  obtain ⟨w, hw, rw_⟩ := RelO.some_of (v := v) (o := mA pn) (by have q := hr pn; simpa [List.lookup] using q)
  have J : PySem.W.InstAt s1.heap a oe C (some od) := got_inst1 ho z f hod
  exact HandSPX.exc_get I1.kIn J T.hg T.hk T.hs (PySem.W.findObj_own T.hd hno rfl (by rw [hl, hw])) (handed_of rw_) ⟨v, H1, I1.tok _, rw_, q⟩
/-- caught: None, or the error -/
def TCaught (K : PySem.W.Frag) (CS : Addr) : (XK → Hp → VK → Prop) → Hp → VK → Prop := fun tl H Q =>
  tl (fun cls d H' => PySem.W.exmOne K cls (.ref CS) = some true ∧ ∀ a, H' a = none → Q (.ref a) (upd H' a (ErrO cls d a))) H fun _ H' => Q .non H'
end
end L2
namespace L2
open PySem PySem.Spec PyProof.Rows LamX
section
variable {X : Cx}
/-- caught = None / try: work() / except PlayError as error: caught = error / return caught -/
theorem caught_gives {x q : Str} {sg : Scope} {g CS : Addr} {cdg : Value} {j : Nat} {p0 p00 p01 p1 p2 p3 p4 p5 p6 p7 p8 p9 p10 p11 : Pos} (hge : sg.names.lookup ("PlayError" : Str) = some .globalImplicit) (hme : X.mg "PlayError" = some (.ref CS))
    (hk : sg.names.lookup ("error" : Str) = some .local) (hk1 : sg.names.lookup ("caught" : Str) = some .local) :
    GivesTo X ["work", "caught", "error"] x sg g cdg [.Assign [.Name "caught" p0] (.Constant .none j p00) p01, .Try [.Expr (.Call (.Name "work" p1) [] [] p2) p3] [.ExceptHandler (some (.Name "PlayError" p4)) (some "error") [.Assign [.Name "caught" p5] (.Name "error" p6) p7] p8] [] [] p9, .Return (some (.Name "caught" p10)) p11]
      "work" q (TCaught X.K CS) := by
  intro f c' s H Q tl act hc h
  let Z : Cx := (cxOf C8.CX0 X.prog X.w X.K X.mg X.base ["work", "caught", "error"] x sg g cdg X.A X.stack s H C8.E0).nox
  have hgl : Gl Z "PlayError" := hge
  have nd : Z.N.Nodup := by show (["work", "caught", "error"] : List Str).Nodup; decide +kernel
  refine ⟨_, pss_cons (ps_set (X := Z) (i := 1) nd rfl (.inl hk1) pe_non) (pss_cons (ps_try_keep (X := Z) (c := .ref CS) (i := 2)
      (tb := fun W D σ H => ∃ Ech : XK, (∀ cls d σ' H', Ech cls d H' → W cls d σ' H') ∧ σ[0]? = some (some (.ref f)) ∧ H c' = some (CodeO c' q) ∧ tl Ech H fun _ H' => D.nx σ H')
      rfl rfl rfl nd rfl hk ⟨hgl, by decide, .inl hme⟩ (fun W pn xe tk => ?_) (fun a cls d pn => pss_one (ps_set (X := Z.suite a pn) (i := 1) nd rfl (.inl hk1) (pe_var (i := 2) rfl (.inl hk) (by decide) (by decide))))) (pss_one (ps_ret (X := Z) (pe_var (i := 1) rfl (.inl hk1) (by decide) (by decide))))), ?_⟩
  · refine ⟨fun pins s' σ H' D I h' => ?_⟩
    obtain ⟨Ech, hW, h1, h2, h3⟩ := h'
    have hq := pss_one (ps_expr (pos := p3) (act W pn xe Ech p1 p2 tk hW))
    exact hq.run pins s' σ H' D I ⟨h1, h2, h3⟩
  · refine ⟨fun cls d H' => PySem.W.exmOne X.K cls (.ref CS) = some true ∧ ∀ a, H' a = none → Q (.ref a) (upd H' a (ErrO cls d a)), fun cls d σ' H' hh => ⟨hh.1, fun a na hl => ?_⟩, rfl, hc, ?_⟩
    · obtain ⟨s0, s1, s2, rfl⟩ : ∃ s0 s1 s2, σ' = [s0, s1, s2] := by
        match σ', (show σ'.length = 3 from hl) with
        | [s0, s1, s2], _ => exact ⟨s0, s1, s2, rfl⟩
      exact ⟨_, rfl, _, rfl, hh.2 a na⟩
    · refine Eq.mpr (congrArg (tl _ H) (funext fun _ => funext fun H' => propext ⟨fun hh => ?_, fun q => ⟨.non, rfl, q⟩⟩)) h
      obtain ⟨v, e, q⟩ := hh
      cases e
      exact q
end
end L2
/-! Small rules: f(k = v) without anything by position; a short string many times. -/
namespace L2
open PySem PySem.Spec PyProof.Rows
section
variable {X : Cx}
def tCallK0 (sp : Sp) (gV : List V → List V → List V) (E : XK) (tk : TA) : TE := fun σ H Q => tk σ H fun zs H1 => sp (gV [] zs) H1 Q E
theorem pe_callK0 {CX : CXT} {k : Nat} {f : Addr} {fd : FuncData} {ps ks : List Str} {sp : Sp} {E : XK} {x : Str} {p pos : Pos} {kws : List Keyword} {tk : TA} {g : List Value → List Value → List Value} {gV : List V → List V → List V}
    (F : FnOk X.prog X.w X.K X.mg X.base CX k f fd ps sp) (hr : Room k X.A) (hg : Gl X x) (hm : X.mg x = some (.ref f)) (hk : PySem.W.keepIn X.K (.ref f) = true) (hb : KBinds X.K fd ps ks g gV) (hx : Passes CX X E) (hkw : PK X kws tk)
    (some_ : (backToKw pos (keywordEach kws X.env)).all (·.1.isSome) = true := by rfl) (names_ : (backToKw pos (keywordEach kws X.env)).filterMap (·.1) = ks := by rfl) (hdb : (x == ("__debug__" : Str)) = false := by decide)
    (plain_ : ((backTo pos (starEach [] X.env)).any (·.1) || (backToKw pos (keywordEach kws X.env)).any (·.1.isNone)) = false := by rfl) : PE X (.Call (.Name x p) [] kws pos) (tCallK0 sp gV E tk) := by
  refine ⟨fun pins s σ H Q I h => wpAny_Call_Name_kw (ld_glob I hg hm ?_ hdb)⟩
  refine PySem.W.callWith_KW0 (h₀ := X.base) I.ok.mod.kin hk some_ (thn (hkw.run pos pins s σ H _ I h) fun ws s1 hh => ?_) plain_
  obtain ⟨zs, H1, I1, rz, q⟩ := hh
  rw [names_]
  exact ⟨I1.kIn, run_fnk (us := []) (vs := []) F hr hb hx I1 .nil rz q⟩
/-- "a" * 9 -/
def rMulS : R2 := fun x y H Q => ∃ (z : Str) (i : Int), x = .str z ∧ y = .int i ∧ z.length ≤ 16 ∧ 0 ≤ i ∧ i ≤ 1000 ∧ Q (.str (Txt.mul z i)) H
theorem op_mulS : OpR X (binaryOp .Mult) rMulS := by
  intro pins s σ H x y v u Q I rx ry h
  obtain ⟨z, i, rfl, rfl, hz, h0, h1, q⟩ := h
  obtain ⟨t, rfl⟩ := (show ∃ t, v = Value.str z t from rx)
  obtain ⟨t2, rfl⟩ := (show ∃ t, u = Value.int i t from ry)
  exact PySem.W.KXi.mul (n := z.length) rfl hz (by omega) (by omega) fun t' k _ _ => ⟨.str (Txt.mul z i), H, I.tok k, ⟨t', rfl⟩, q⟩
end
end L2
/-! law of k01: its text, its frame, what it calls. -/
namespace Jd
open PySem PySem.Spec PyProof.Rows L2 RZ LamX Lm Dk
abbrev sCaught : Stmt := Jd.top 56
abbrev sLaw : Stmt := Jd.top 58
abbrev caN : List Str := ["work", "caught", "error"]
abbrev lawN : List Str := ["script", "draw", "turn", "word", "args_here", "sort_here", "bad", "odd", "names_here", "work", "caught", "k", "one"]
theorem scCaught : FnScope caN ["work"] (defScope sCaught) := ⟨rfl, rfl, rfl, by decide +kernel, rfl, by decide +kernel, by decide +kernel⟩
theorem scLaw : FnScope lawN ["script"] (defScope sLaw) := ⟨rfl, rfl, rfl, by decide +kernel, rfl, by decide +kernel, by decide +kernel⟩
/-- the body of the for -/
def forBody : Stmt → List Stmt
  | .For _ _ b _ _ => b
  | _ => []
def lbody : List Stmt := forBody ((defBody sLaw).getD 1 (.Pass ⟨0, 0, 0, 0⟩))
abbrev lb (i : Nat) : Stmt := lbody.getD i (.Pass ⟨0, 0, 0, 0⟩)
theorem lbody_eq : lbody = [lb 0, lb 1, lb 2, lb 3, lb 4, lb 5, lb 6, lb 7, lb 8, lb 9, lb 10, lb 11, lb 12, lb 13] := by rfl
/-- a def that is called by its name -/
structure Has (P : Program) (w : World) (K : PySem.W.Frag) (mg : Str → Option Value) (base : Heap) (CX : CXT) (x : Str) (k : Nat) (ps : List Str) (sp : Sp) (f : Addr) (fd : FuncData) : Prop where
  m : mg x = some (.ref f)
  kp : PySem.W.keepIn K (.ref f) = true
  g : FnOk P w K mg base CX k f fd ps sp
  b : Binds K fd ps []
section
variable {P : Program} {w : World} {K : PySem.W.Frag} {mg : Str → Option Value} {base : Heap}
theorem Has.pe {X : Cx} {CX : CXT} {x : Str} {k : Nat} {ps : List Str} {sp : Sp} {f : Addr} {fd : FuncData} {E : XK} {e : Expr} {es : List Expr} {t : TA} {p pos : Pos} (G : Has X.prog X.w X.K X.mg X.base CX x k ps sp f fd) (hr : Room k X.A) (hx : Passes CX X E) (ha : PA X (e :: es) t) (hg : Gl X x)
    (hdb : (x == ("__debug__" : Str)) = false := by decide) (he : starEach (e :: es) X.env = (false, eval e X.env) :: starEach es X.env := by rfl) (hpl : (backTo pos (starEach es X.env)).any (·.1) = false := by rfl) :
    PE X (.Call (.Name x p) (e :: es) [] pos) (tCall sp [] E t) := pe_call G.g hr hg G.m G.kp G.b .nil hx ha hdb he hpl
/-- THE RULE for a def, its code object told -/
theorem Fun.okC {x qual : Str} {st : Stmt} {f : Addr} {fd : FuncData} {N ps : List Str} {k : Nat} {sp : Sp} (F : Fun K x qual st f fd) (S : FnScope N ps (defScope st)) (len : ∀ vs H Q E, sp vs H Q E → vs.length = ps.length)
    (hbody : ∀ (A : Around) (outer : List Env) (s : Shared) (H : Hp) (vs : List V) (Q : VK) (E : XK), Room k (A.deeper (envOfC qual (defScope st) s.heap.objs.size f fd.code)) → sp vs H Q E →
      ∃ t, PSs (cxOf CX0 P w K mg base N qual (defScope st) f fd.code A outer s H E).nox (defBody st) t ∧ t { nx := fun _ H' => Q .non H', rt := Q } (start N vs) H) : FnOk P w K mg base CX0 (k + 1) f fd ps sp := by
  obtain ⟨oc, od, kV, doc, pm, an, cdv, ct, osl, rfl, lk, hcd⟩ := F.ex
  refine fn_of lk hcd S len fun A outer s H vs Q E hr hsp => ?_
  obtain ⟨t, h, q⟩ := hbody A outer s H vs Q E hr hsp
  exact ⟨t, PSs.nox h, q⟩
theorem PS.imp {X : Cx} {st : Stmt} {t u : TS} (h : PS X st t) (i : ∀ D σ H, u D σ H → t D σ H) : PS X st u := ⟨fun pins s σ H D I q => h.run pins s σ H D I (i D σ H q)⟩
theorem new_same {H : Hp} {p : Addr} {o : HO} (n : H p = none) : Same H (upd H p o) := fun b u e => (upd_ne (ne_of_none e n)).trans e
/-- data are kept: all but tables and what is tracked by its look -/
def isD : HO → Bool
  | .ext _ => false
  | .tbl _ => false
  | _ => true
def Kp (H H' : Hp) : Prop := ∀ b o, H b = some o → isD o = true → H' b = some o
theorem Kp.refl (H : Hp) : Kp H H := fun _ _ h _ => h
theorem Kp.trans {H H1 H2 : Hp} (a : Kp H H1) (b : Kp H1 H2) : Kp H H2 := fun c o h d => b c o (a c o h d) d
theorem Kp.of {H H' : Hp} (s : Same H H') : Kp H H' := fun b o h _ => s b o h
theorem Kp.ext {H H' : Hp} (s : ExtN H H') : Kp H H' := fun b o h d => s b o h fun ps z => by rw [z] at d; cases d
theorem Kp.del {H : Hp} {f : Addr} {φ : Heap → Prop} (e : H f = some (.ext φ)) : Kp H (delH H f) := fun b o h d => by
  have ne : b ≠ f := fun z => by
    rw [z, e] at h
    cases h
    cases d
  rw [delH_ne ne]
  exact h
theorem Kp.sqL {H H' : Hp} {a : Addr} {xs : List V} (s : Kp H H') (h : SqL K H a xs) : SqL K H' a xs := by
  rcases h with (h | ⟨o, h⟩) | h
  · exact .inl (.inl (s _ _ h rfl))
  · exact .inl (.inr ⟨o, s _ _ h rfl⟩)
  · exact .inr h
theorem Kp.sqT {H H' : Hp} {a : Addr} {xs : List V} (s : Kp H H') (h : SqT K H a xs) : SqT K H' a xs := by
  rcases h with (h | ⟨o, h⟩) | h
  · exact .inl (.inl (s _ _ h rfl))
  · exact .inl (.inr ⟨o, s _ _ h rfl⟩)
  · exact .inr h
theorem Kp.dp {H H' : Hp} {v : V} {d : PyData} (s : Kp H H') (h : Dp K H v d) : Dp K H' v d := (dp_of (fun _ _ q => s.sqL q) (fun _ _ q => s.sqT q)).1 h
theorem Kp.dps {H H' : Hp} {vs : List V} {ds : List PyData} (s : Kp H H') (h : DpAll K H vs ds) : DpAll K H' vs ds := (dp_of (fun _ _ q => s.sqL q) (fun _ _ q => s.sqT q)).2 h
theorem Kp.nm {H H' : Hp} {v : V} {o : Option (List (Key × PyData))} (s : Kp H H') (h : NmAt K H v o) : NmAt K H' v o := by
  cases h with
  | no h => exact .no (s.dp h)
  | dct e hk h hz => exact .dct (s _ _ e rfl) hk (s.dps h) hz
theorem Kp.draw {H H' : Hp} {d l c : Addr} (s : Kp H H') (D : DrawAt H d l c) : DrawAt H' d l c := by
  obtain ⟨h1, h2, h3, r, t, ls, cs, e1, e2, e3, r2⟩ := D
  exact ⟨h1, h2, h3, r, t, ls, cs, s _ _ e1 rfl, s _ _ e2 rfl, s _ _ e3 rfl, r2⟩
/-- the tables over what a draw leaves -/
theorem tabs_but {T : List (Addr × Str)} {H H' : Hp} {d l c : Addr} (t : Tabs T H) (D : DrawAt H d l c) (B : But H H' d l) : Tabs T H' := fun p hp => by
  obtain ⟨ps, h1, h2, h3⟩ := t p hp
  obtain ⟨_, _, _, r, t', ls, cs, ed, el, _⟩ := D
  refine ⟨ps, B _ _ h1 (ne_of h1 ed (by intro z; cases z)) (ne_of h1 el (by intro z; cases z)), h2, fun pos cv hc => ?_⟩
  obtain ⟨c0, e1, e2⟩ := h3 pos cv hc
  exact ⟨c0, e1, B _ _ e2 (ne_of e2 ed (by intro z; cases z)) (ne_of e2 el (by intro z; cases z))⟩
/-- a lambda is no code object -/
theorem lmO_ne {f c0 : Addr} {q q2 : Str} {params : Arguments} {body : Expr} {scope : Scope} {cl : List (Str × Addr)} {c' : Addr} : LmO f q params body scope cl c' ≠ CodeO c0 q2 ∨ f ≠ c0 := by
  by_cases e : f = c0
  · subst e
    refine .inl fun z => ?_
    unfold LmO CodeO at z
    have z1 := HO.ext.inj z
    have g : (Heap.push ⟨Array.replicate f default, {}⟩ (PySem.W.kla_obj "<lambda>" q params body scope cl .none c' .none)).get? f = some (PySem.W.kla_obj "<lambda>" q params body scope cl .none c' .none) := by
      have s := Heap.get?_push_size (⟨Array.replicate f default, {}⟩ : Heap) (o := PySem.W.kla_obj "<lambda>" q params body scope cl .none c' .none) rfl
      rw [show (⟨Array.replicate f default, {}⟩ : Heap).objs.size = f from Array.size_replicate] at s
      exact s
    have y : ∃ (oc : Obj) (vs : Array Value) (t : Tok), (Heap.push ⟨Array.replicate f default, {}⟩ (PySem.W.kla_obj "<lambda>" q params body scope cl .none c' .none)).get? f = some oc ∧ oc.data = .fields vs ∧ vs[1]? = some (.str q2 t) :=
      (congrFun z1 _).mp ⟨.none, .none, g⟩
    obtain ⟨oc, vs, t, y1, y2, _⟩ := y
    rw [g] at y1
    cases y1
    cases y2
  · exact .inr e
end
end Jd
/-! law of k01: its first statements. -/
namespace Jd
open PySem PySem.Spec PyProof.Rows L2 RZ LamX Lm Dk
abbrev plain3 : List Str := ["num", "do", "box"]
/-- what law calls -/
structure LawTop (P : Program) (w : World) (K : PySem.W.Frag) (mg : Str → Option Value) (base : Heap) (cN cS : Addr) : Prop where
  begun : ∃ f fd, Has P w K mg base CX0 "_law_begun" 1 ["script"] (spBegun K) f fd
  pick : ∃ f fd, Has P w K mg base CX0 "_law_pick" 3 ["draw", "some"] (spPick K) f fd
  take : ∃ f fd, Has P w K mg base CX0 "_law_take" 2 ["draw", "amount"] spTake f fd
  names : ∃ f fd, Has P w K mg base CX0 "_law_names" 4 ["draw", "many", "most_args"] spLawNames f fd
  plain : ∃ f fd, Has P w K mg base CX0 "is_plain" 1 ["thing"] (spPlain K) f fd ∧ KBinds K fd ["thing"] ["thing"] (fun us ws => us ++ ws) (fun vs zs => vs ++ zs)
  sort : ∃ f fd, Has P w K mg base CX0 "is_sort" 2 ["thing"] (spSort K) f fd ∧ KBinds K fd ["thing"] ["thing"] (fun us ws => us ++ ws) (fun vs zs => vs ++ zs)
  isTerm : ∃ f fd, Has P w K mg base (L2.CX P w) "is_term" 7 ["size", "names", "thing"] (spIsTerm K cN cS) f fd
  sortOf : ∃ f fd, Has P w K mg base (L2.CX P w) "sort_of" 5 ["size", "names", "term"] (spSortOf K cN cS) f fd
  piece : ∃ C f fd, mg "Piece" = some (.ref C) ∧ Mk K C f ∧ FnOk P w K mg base (L2.CX P w) 5 f fd ["self", "size", "names", "term"] (spPieceInit K cN cS) ∧ Binds K fd ["self", "size", "names", "term"] []
  func : ∃ C f fd, mg "Function" = some (.ref C) ∧ Mk K C f ∧ FnOk P w K mg base (L2.CX P w) 5 f fd ["self", "size", "names", "params", "term"] (spFuncInit K cN cS) ∧ Binds K fd ["self", "size", "names", "params", "term"] []
  len : mg "len" = none
  min : mg "min" = none
  rng : mg "range" = none
  tup : mg "tuple" = none
  lst : mg "list" = none
  dct : mg "dict" = none
  isi : mg "isinstance" = none
/-- the frame of law -/
structure Fr where
  a : Addr
  d : Addr
  v2 : Option V
  v3 : Option V
  v4 : Option V
  v5 : Option V
  v6 : Option V
  v7 : Option V
  v8 : Option V
  v9 : Option V
  v10 : Option V
abbrev Fr.st (q : Fr) : L2.St := [some (.ref q.a), some (.ref q.d), q.v2, q.v3, q.v4, q.v5, q.v6, q.v7, q.v8, q.v9, q.v10, none, none]
/-- what stands while law runs -/
structure Good (T : List (Addr × Str)) (H : Hp) (d l c : Addr) : Prop where
  D : DrawAt H d l c
  T : Tabs T H
section
variable {T : List (Addr × Str)} {H H' : Hp} {d l c : Addr}
theorem Good.same (g : Good T H d l c) (s : Same H H') : Good T H' d l c := ⟨g.D.same s, g.T.ext s⟩
theorem Good.but (g : Good T H d l c) (D : DrawAt H' d l c) (B : But H H' d l) : Good T H' d l c := ⟨D, tabs_but g.T g.D B⟩
theorem Good.new (g : Good T H d l c) {p : Addr} (n : H p = none) : p ≠ d ∧ p ≠ l ∧ p ≠ c := by
  obtain ⟨_, _, _, r, t', ls, cs, ed, el, ec, _⟩ := g.D
  exact ⟨(ne_of_none ed n).symm, (ne_of_none el n).symm, (ne_of_none ec n).symm⟩
/-- a datum of ours is written -/
theorem Good.off (g : Good T H d l c) {p : Addr} {o u : HO} (e : H p = some u) (hu : isD u = true) (h1 : p ≠ d) (h2 : p ≠ l) (h3 : p ≠ c) : Good T (upd H p o) d l c := by
  refine ⟨g.D.off h1 h2 h3, fun r hr => ?_⟩
  have ne : ∀ b v, H b = some v → isD v = false → b ≠ p := fun b v eb hv z => by
    rw [z, e] at eb
    cases eb
    rw [hu] at hv
    cases hv
  obtain ⟨ps, e1, e2, e3⟩ := g.T r hr
  refine ⟨ps, (upd_ne (ne _ _ e1 rfl)).trans e1, e2, fun pos cv hc => ?_⟩
  obtain ⟨c0, y1, y2⟩ := e3 pos cv hc
  exact ⟨c0, y1, (upd_ne (ne _ _ y2 rfl)).trans y2⟩
end
section
variable {P : Program} {w : World} {K : PySem.W.Frag} {mg : Str → Option Value} {base : Heap} {cN cS f : Addr} {cdv : Value} {A : Around} {outer : List Env} {s0 : Shared} {H0 : Hp} {E : XK} {T : List (Addr × Str)}
abbrev LX (P : Program) (w : World) (K : PySem.W.Frag) (mg : Str → Option Value) (base : Heap) (f : Addr) (cdv : Value) (A : Around) (outer : List Env) (s0 : Shared) (H0 : Hp) (E : XK) : Cx := (cxOf CX0 P w K mg base lawN "law" (defScope sLaw) f cdv A outer s0 H0 E).nox
theorem ndL : lawN.Nodup := scLaw.nd
abbrev RoomL (f : Addr) (cdv : Value) (A : Around) (s0 : Shared) : Prop := Room 9 (A.deeper (envOfC "law" (defScope sLaw) s0.heap.objs.size f cdv))
/-- word = _law_pick(draw, ["num", "do", "box"]) -/
theorem st0 (G : LawTop P w K mg base cN cS) (hr : RoomL f cdv A s0) : PS (LX P w K mg base f cdv A outer s0 H0 E) (lb 0) (fun D σ H => ∃ (q : Fr) (l c : Addr), σ = q.st ∧ Good T H q.d l c ∧ ∀ g H', g ∈ plain3 → Good T H' q.d l c → D.nx { q with v3 := some (.str g) }.st H') := by
  obtain ⟨fP, dP, gP⟩ := G.pick
  refine PS.imp (ps_set (i := 3) ndL rfl (Or.inl rfl) (gP.pe (X := LX P w K mg base f cdv A outer s0 H0 E) (hr.mono (show 3 ≤ 9 by decide)) pass0 (pa_cons (pv 1) (pa_cons (pe_lst (pa_cons pe_str (pa_cons pe_str (pa_cons pe_str pa_nil)))) pa_nil)) rfl)) fun D σ H h => ?_
  obtain ⟨q, l, c, rfl, g0, k⟩ := h
  refine ⟨_, rfl, by show 3 ≤ sizeLine; decide, fun u nu => ?_⟩
  have su : Same H (upd H u (.lst (plain3.map V.str))) := new_same nu
  obtain ⟨ud, ul, _⟩ := g0.new nu
  refine ⟨q.d, l, c, u, _, rfl, upd_same, ud, ul, by show 0 < 3; decide, by show 3 < 1000; decide, (g0.same su).D, fun i x H2 hx D2 B2 => ?_⟩
  obtain ⟨g, hg, rfl⟩ := pick_str (ss := plain3) hx
  exact k g H2 hg ((g0.same su).but D2 B2)
/-- is_plain(word) is not True or is_plain(thing=word) is not True: never -/
theorem st1 (G : LawTop P w K mg base cN cS) (hr : RoomL f cdv A s0) : PS (LX P w K mg base f cdv A outer s0 H0 E) (lb 1) (fun D σ H => ∃ (q : Fr) (g : Str), σ = q.st ∧ q.v3 = some (.str g) ∧ g ∈ plain3 ∧ D.nx q.st H) := by
  obtain ⟨fP, dP, gP, kP⟩ := G.plain
  have hr1 : Room 1 (LX P w K mg base f cdv A outer s0 H0 E).A := hr.mono (show 1 ≤ 9 by decide)
  refine PS.imp (ps_if (PW.pt (pw_or (pt_cmpR op_isnot_bl (gP.pe (X := LX P w K mg base f cdv A outer s0 H0 E) hr1 pass0 (pa_cons (pv 3) pa_nil) rfl) pe_bl (nomark _))
    (pw_or1 (pt_cmpR op_isnot_bl (pe_callK0 (X := LX P w K mg base f cdv A outer s0 H0 E) gP.g hr1 rfl gP.m gP.kp kP pass0 (pk_cons (pv 3) pk_nil)) pe_bl (nomark _))))) (pss_one (ps_ret pe_bl)) pss_nil) fun D σ H h => ?_
  obtain ⟨q, g, rfl, e3, hg, k⟩ := h
  have pl : plainD (.str g) = true := by
    have all3 : ∀ x ∈ plain3, plainD (.str x) = true := by decide +kernel
    exact all3 g hg
  refine ⟨.str g, by rw [← e3]; rfl, _, _, rfl, .str g, ?_⟩
  rw [pl]
  refine ⟨true, true, rfl, rfl, _, rfl, iteNS rfl ?_⟩
  refine ⟨.str g, by rw [← e3]; rfl, _, _, rfl, .str g, ?_⟩
  rw [pl]
  refine ⟨true, true, rfl, rfl, _, rfl, ?_⟩
  exact iteNS rfl k
/-- a drawn row of sorts -/
def ArgsAt (H : Hp) (p : Addr) (ts : List Str) : Prop := H p = some (.tup (ts.map V.str)) ∧ ts.length ≤ 3 ∧ ∀ x ∈ ts, x ∈ plain3
/-- args_here = tuple([_law_pick(draw, [..]) for k in range(_law_take(draw, 4))]) -/
theorem st2 (G : LawTop P w K mg base cN cS) (hr : RoomL f cdv A s0) : PS (LX P w K mg base f cdv A outer s0 H0 E) (lb 2) (fun D σ H => ∃ (q : Fr) (l c : Addr), σ = q.st ∧ Good T H q.d l c ∧ ∀ p ts H', ArgsAt H' p ts → Good T H' q.d l c → D.nx { q with v4 := some (.ref p) }.st H') := by
  obtain ⟨fP, dP, gP⟩ := G.pick
  obtain ⟨fT, dT, gT⟩ := G.take
  have hr2 : Room 2 (LX P w K mg base f cdv A outer s0 H0 E).A := hr.mono (show 2 ≤ 9 by decide)
  have hr3 : Room 3 (LX P w K mg base f cdv A outer s0 H0 E).A := hr.mono (show 3 ≤ 9 by decide)
  refine PS.imp (ps_set (i := 4) ndL rfl (Or.inl rfl) (pe_callTy (X := LX P w K mg base f cdv A outer s0 H0 E) call_tuple_of (by rfl) G.tup (by decide +kernel) (pa_cons
    (pe_lc (own := [("k", 11)]) (g := gName 11) rfl ndL (pi_range1 (by rfl) G.rng (pa_cons (gT.pe (X := LX P w K mg base f cdv A outer s0 H0 E) hr2 pass0 (pa_cons (pv 1) (pa_cons pe_int pa_nil)) rfl) pa_nil)) (blkOk_by (N := lawN) (sc := defScope sLaw) (by decide +kernel))
      (fun _ _ _ _ _ => pg_name (i := 11) ndL rfl (Or.inl rfl)) (fun _ _ _ _ _ => pts_nil) (fun _ _ _ _ _ => pe_call gP.g hr3 rfl gP.m gP.kp gP.b .nil pass0 (pa_cons (pv 1) (pa_cons (pe_lst (pa_cons pe_str (pa_cons pe_str (pa_cons pe_str pa_nil)))) pa_nil)))) pa_nil))) fun D σ H h => ?_
  obtain ⟨q, l, c, rfl, g0, k⟩ := h
  refine ⟨_, rfl, q.d, l, c, 4, rfl, by decide, by decide, g0.D, fun m0 H9 m1 m4 D9 B9 => ?_⟩
  obtain ⟨m, rfl⟩ := Int.eq_ofNat_of_zero_le m1
  have g9 := g0.but D9 B9
  refine ⟨m, rfl, by omega, by omega, fun Dl nDl => ?_⟩
  obtain ⟨Dd, Dll, Dc⟩ := g9.new nDl
  refine lc_range (lo := 0) (n := m) (fun j H1 => Good T H1 q.d l c ∧ ∃ as : List Str, as.length = j ∧ (∀ x ∈ as, x ∈ plain3) ∧ H1 Dl = some (.lst (as.map V.str))) ⟨g9.same (new_same nDl), [], rfl, fun x h => (List.not_mem_nil h).elim, upd_same⟩ ?_ ?_
  · rintro j H1 hj ⟨g1, as, la, ha, eD⟩
    refine ⟨rfl, ?_⟩
    refine ⟨_, rfl, by show 3 ≤ sizeLine; decide, fun u nu => ?_⟩
    obtain ⟨ud, ul, _⟩ := g1.new nu
    have su : Same H1 (upd H1 u (.lst (plain3.map V.str))) := new_same nu
    refine ⟨q.d, l, c, u, _, rfl, upd_same, ud, ul, by show 0 < 3; decide, by show 3 < 1000; decide, (g1.same su).D, fun ix x H2 hx D2 B2 => ?_⟩
    obtain ⟨g, hg, rfl⟩ := pick_str (ss := plain3) hx
    have g2 := (g1.same su).but D2 B2
    refine ⟨_, B2 _ _ (su _ _ eD) Dd Dll, ?_, ?_, as ++ [g], by simp [la], fun x h => ?_, ?_⟩
    · rw [List.length_map, la]
      exact small1000 (by omega)
    · exact g2.off (B2 _ _ (su _ _ eD) Dd Dll) rfl Dd Dll Dc
    · rcases List.mem_append.mp h with h | h
      · exact ha x h
      · rw [List.mem_singleton] at h
        rw [h]
        exact hg
    · rw [upd_same, List.map_append]
      rfl
  · rintro H1 ⟨g1, as, la, ha, eD⟩
    refine ⟨Dl, _, rfl, .inl ⟨SqL.of eD, fun b nb => ?_⟩⟩
    exact k b as _ ⟨upd_same, by omega, ha⟩ (g1.same (new_same nb))
/-- sort_here = (args_here, _law_pick(draw, ["num", "do"])) -/
theorem st3 (G : LawTop P w K mg base cN cS) (hr : RoomL f cdv A s0) : PS (LX P w K mg base f cdv A outer s0 H0 E) (lb 3) (fun D σ H => ∃ (q : Fr) (l c p : Addr) (ts : List Str), σ = q.st ∧ q.v4 = some (.ref p) ∧ ArgsAt H p ts ∧ Good T H q.d l c ∧
    ∀ v g H', SortAt H' v ts g → GoodS ts g → ArgsAt H' p ts → Good T H' q.d l c → D.nx { q with v5 := some v }.st H') := by
  obtain ⟨fP, dP, gP⟩ := G.pick
  have hr3 : Room 3 (LX P w K mg base f cdv A outer s0 H0 E).A := hr.mono (show 3 ≤ 9 by decide)
  refine PS.imp (ps_set (i := 5) ndL rfl (Or.inl rfl) (pe_tup (pa_cons (pv 4) (pa_cons (gP.pe (X := LX P w K mg base f cdv A outer s0 H0 E) hr3 pass0 (pa_cons (pv 1) (pa_cons (pe_lst (pa_cons pe_str (pa_cons pe_str pa_nil))) pa_nil)) rfl) pa_nil)))) fun D σ H h => ?_
  obtain ⟨q, l, c, p, ts, rfl, e4, ⟨ep, hl, hs⟩, g0, k⟩ := h
  refine ⟨.ref p, by rw [← e4]; rfl, ?_⟩
  refine ⟨_, rfl, by show 2 ≤ sizeLine; decide, fun u nu => ?_⟩
  obtain ⟨ud, ul, _⟩ := g0.new nu
  have su : Same H (upd H u (.lst (sorts2.map V.str))) := new_same nu
  refine ⟨q.d, l, c, u, _, rfl, upd_same, ud, ul, by show 0 < 2; decide, by show 2 < 1000; decide, (g0.same su).D, fun i x H2 hx D2 B2 => ?_⟩
  obtain ⟨g, hg, rfl⟩ := pick_str (ss := sorts2) hx
  have g2 := (g0.same su).but D2 B2
  have pd : p ≠ q.d ∧ p ≠ l := by
    obtain ⟨_, _, _, r, t', ls, cs, ed, el, _⟩ := g0.D
    exact ⟨ne_of ep ed (by intro z; cases z), ne_of ep el (by intro z; cases z)⟩
  have ep2 := B2 _ _ (su _ _ ep) pd.1 pd.2
  refine ⟨by show 2 ≤ sizeLine; decide, fun t nt => ?_⟩
  have st : Same H2 (upd H2 t (.tup [.ref p, .str g])) := new_same nt
  have gs : g ∈ sorts4 ∧ g ≠ "box" := by
    have z : ∀ x ∈ sorts2, x ∈ sorts4 ∧ x ≠ "box" := by decide +kernel
    exact z g hg
  have s4 : ∀ x ∈ ts, x ∈ sorts4 := fun x hx => by
    have z : ∀ x ∈ plain3, x ∈ sorts4 := by decide +kernel
    exact z x (hs x hx)
  exact k (.ref t) g _ ⟨t, p, rfl, upd_same, st _ _ ep2⟩ (good_mono hl s4 gs.1 fun z => absurd z gs.2) ⟨st _ _ ep2, hl, hs⟩ (g2.same st)
/-- is_sort(sort_here) is not True or ..: never -/
theorem st4 (G : LawTop P w K mg base cN cS) (hr : RoomL f cdv A s0) : PS (LX P w K mg base f cdv A outer s0 H0 E) (lb 4) (fun D σ H => ∃ (q : Fr) (v : V) (ts : List Str) (g : Str), σ = q.st ∧ q.v5 = some v ∧ SortAt H v ts g ∧ GoodS ts g ∧ ∀ H', Same H H' → D.nx q.st H') := by
  obtain ⟨fP, dP, gP, kP⟩ := G.sort
  have hr2 : Room 2 (LX P w K mg base f cdv A outer s0 H0 E).A := hr.mono (show 2 ≤ 9 by decide)
  refine PS.imp (ps_if (PW.pt (pw_or (pt_cmpR op_isnot_bl (gP.pe (X := LX P w K mg base f cdv A outer s0 H0 E) hr2 pass0 (pa_cons (pv 5) pa_nil) rfl) pe_bl (nomark _))
    (pw_or (pt_cmpR op_isnot_bl (pe_callK0 (X := LX P w K mg base f cdv A outer s0 H0 E) gP.g hr2 rfl gP.m gP.kp kP pass0 (pk_cons (pv 5) pk_nil)) pe_bl (nomark _))
    (pw_or1 (pt_cmpR op_isnot_bl (gP.pe (X := LX P w K mg base f cdv A outer s0 H0 E) hr2 pass0 (pa_cons (pe_tup (pa_cons (pe_tup pa_nil) (pa_cons pe_str pa_nil))) pa_nil) rfl) pe_bl (nomark _)))))) (pss_one (ps_ret pe_bl)) pss_nil) fun D σ H h => ?_
  obtain ⟨q, v, ts, g, rfl, e5, hs, hg, k⟩ := h
  refine ⟨v, by rw [← e5]; rfl, _, _, rfl, hs.dp, fun H1 s1 => ?_⟩
  rw [show sortD (.tuple [.tuple (ts.map PyData.str), .str g]) = true from hg]
  refine ⟨true, true, rfl, rfl, _, rfl, iteNS rfl ?_⟩
  refine ⟨v, by rw [← e5]; rfl, _, _, rfl, (hs.same s1).dp, fun H2 s2 => ?_⟩
  rw [show sortD (.tuple [.tuple (ts.map PyData.str), .str g]) = true from hg]
  refine ⟨true, true, rfl, rfl, _, rfl, iteNS rfl ?_⟩
  refine ⟨Nat.zero_le _, fun b nb => ⟨by show 2 ≤ sizeLine; decide, fun t nt => ?_⟩⟩
  have sb : Same H2 (upd H2 b (.tup [])) := new_same nb
  have st : Same (upd H2 b (.tup [])) (upd (upd H2 b (.tup [])) t (.tup [.ref b, .str "box"])) := new_same nt
  refine ⟨_, .tuple [.tuple [], .str "box"], rfl, .tup (SqT.of upd_same) (.cons (.tup (SqT.of (st _ _ upd_same)) .nil) (.cons (.str "box") .nil)), fun H3 s3 => ?_⟩
  rw [show sortD (.tuple [.tuple [], .str "box"]) = true by decide +kernel]
  exact ⟨true, true, rfl, rfl, _, rfl, iteNS rfl (k H3 (((s1.trans s2).trans sb).trans (st.trans s3)))⟩
end
end Jd
/-! law of k01: values near sorts; drawn names. -/
namespace Jd
open PySem PySem.Spec PyProof.Rows L2 RZ LamX Lm Dk
section
variable {K : PySem.W.Frag} {H : Hp}
theorem dps_app {xs ys : List V} {ds es : List PyData} (h : DpAll K H xs ds) (h2 : DpAll K H ys es) : DpAll K H (xs ++ ys) (ds ++ es) := by
  have main : ∀ (xs : List V) (ds : List PyData), DpAll K H xs ds → DpAll K H (xs ++ ys) (ds ++ es) := by
    intro xs
    induction xs with
    | nil => intro ds h; cases h; exact h2
    | cons y zs ih =>
      intro ds h
      cases h with
      | cons a b => exact .cons a (ih _ b)
  exact main xs ds h
end
section
variable {P : Program} {w : World} {K : PySem.W.Frag} {mg : Str → Option Value} {base : Heap} {cN cS f : Addr} {cdv : Value} {A : Around} {outer : List Env} {s0 : Shared} {H0 : Hp} {E : XK} {T : List (Addr × Str)}
def badPl : List PyData := [.none, .int 5, .str "", .str "Num", .str "numb", .tuple [.str "num"], .list [.str "num"]]
/-- for bad in [None, 5, ..]: if is_plain(bad) is not False: return False -/
theorem st5 (G : LawTop P w K mg base cN cS) (hr : RoomL f cdv A s0) : PS (LX P w K mg base f cdv A outer s0 H0 E) (lb 5) (fun D σ H => ∃ (q : Fr) (l c : Addr), σ = q.st ∧ Good T H q.d l c ∧ ∀ v6 H', Same H H' → Good T H' q.d l c → D.nx { q with v6 := v6 }.st H') := by
  obtain ⟨fP, dP, gP, _⟩ := G.plain
  have hr1 : Room 1 (LX P w K mg base f cdv A outer s0 H0 E).A := hr.mono (show 1 ≤ 9 by decide)
  refine PS.imp (ps_for (X := LX P w K mg base f cdv A outer s0 H0 E) PassesOwn.never rfl
    (pi_list (pe_lst (pa_cons pe_non (pa_cons pe_int (pa_cons pe_str (pa_cons pe_str (pa_cons pe_str (pa_cons (pe_tup (pa_cons pe_str pa_nil)) (pa_cons (pe_lst (pa_cons pe_str pa_nil)) pa_nil)))))))))
    (pg_name (i := 6) ndL rfl (Or.inr rfl)) (pss_one (ps_if (pt_cmpR op_isnot_bl (gP.pe (X := LX P w K mg base f cdv A outer s0 H0 E) hr1 pass0 (pa_cons (pv 6) pa_nil) rfl) pe_bl (nomark _)) (pss_one (ps_ret pe_bl)) pss_nil))) fun D σ H h => ?_
  obtain ⟨q, l, c, rfl, g0, k⟩ := h
  refine ⟨by show 1 ≤ sizeLine; decide, fun t nt => ⟨by show 1 ≤ sizeLine; decide, fun b nb => ?_⟩⟩
  have st : Same H (upd H t (.tup [.str "num"])) := new_same nt
  have sb : Same (upd H t (.tup [.str "num"])) (upd (upd H t (.tup [.str "num"])) b (.lst [.str "num"])) := new_same nb
  refine ⟨by show 7 ≤ sizeLine; decide, fun u nu => ?_⟩
  have su := new_same (o := .lst [.non, .int 5, .str "", .str "Num", .str "numb", .ref t, .ref b]) nu
  have hD : DpAll K (upd (upd (upd H t (.tup [.str "num"])) b (.lst [.str "num"])) u (.lst [.non, .int 5, .str "", .str "Num", .str "numb", .ref t, .ref b])) [.non, .int 5, .str "", .str "Num", .str "numb", .ref t, .ref b] badPl :=
    .cons .non (.cons (.int 5) (.cons (.str "") (.cons (.str "Num") (.cons (.str "numb") (.cons (.tup (SqT.of (su _ _ (sb _ _ upd_same))) (.cons (.str "num") .nil)) (.cons (.lst (SqL.of (su _ _ upd_same)) (.cons (.str "num") .nil)) .nil))))))
  have eu : (upd (upd (upd H t (.tup [.str "num"])) b (.lst [.str "num"])) u (.lst [.non, .int 5, .str "", .str "Num", .str "numb", .ref t, .ref b])) u = some (.lst [.non, .int 5, .str "", .str "Num", .str "numb", .ref t, .ref b]) := upd_same
  have sA := (st.trans sb).trans su
  generalize upd (upd (upd H t (.tup [.str "num"])) b (.lst [.str "num"])) u (.lst [.non, .int 5, .str "", .str "Num", .str "numb", .ref t, .ref b]) = H1 at hD eu sA ⊢
  refine ⟨u, rfl, ⟨_, SqL.of eu⟩, for_list (K := K) (a := u) (xs := [.non, .int 5, .str "", .str "Num", .str "numb", .ref t, .ref b]) (fun i σ H' => Same H1 H' ∧ ∃ v6, σ = { q with v6 := v6 }.st) ⟨Same.refl _, q.v6, rfl⟩ (fun i σ H' _ ⟨s, _⟩ => SqL.of (s _ _ eu)) ?_ ?_⟩
  · rintro i x σ H' hx ⟨s, v6, rfl⟩
    obtain ⟨d, e, hd⟩ := dps_get hD hx
    have no : plainD d = false := by
      have all7 : ∀ d ∈ badPl, plainD d = false := by decide +kernel
      exact all7 d (List.mem_of_getElem? e)
    refine ⟨x, rfl, x, d, rfl, Kp.dp (.of s) hd, ?_⟩
    rw [no]
    exact ⟨false, false, rfl, rfl, _, rfl, iteNS rfl ⟨s, some x, rfl⟩⟩
  · rintro σ H' ⟨s, v6, rfl⟩
    exact k v6 H' (sA.trans s) (g0.same (sA.trans s))
/-- args_here, as a datum -/
abbrev argsD (ts : List Str) : PyData := .tuple (ts.map PyData.str)
theorem ArgsAt.dp {H : Hp} {p : Addr} {ts : List Str} (a : ArgsAt H p ts) : Dp K H (.ref p) (argsD ts) := .tup (SqT.of a.1) (dp_strs ts)
theorem ArgsAt.same {H H' : Hp} {p : Addr} {ts : List Str} (a : ArgsAt H p ts) (s : Same H H') : ArgsAt H' p ts := ⟨s _ _ a.1, a.2⟩
def oddD (ts : List Str) : List PyData := [.none, .int 5, .str "num", .tuple [], .tuple [argsD ts], .tuple [argsD ts, .str "box", .str "num"], .list [argsD ts, .str "num"], .tuple [.list (ts.map PyData.str), .str "num"], .tuple [.tuple [.str "num", .str "num", .str "num", .str "num"], .str "do"]]
/-- odd = [None, 5, ..] -/
theorem st6 (G : LawTop P w K mg base cN cS) (hr : RoomL f cdv A s0) : PS (LX P w K mg base f cdv A outer s0 H0 E) (lb 6) (fun D σ H => ∃ (q : Fr) (l c p : Addr) (ts : List Str), σ = q.st ∧ q.v4 = some (.ref p) ∧ ArgsAt H p ts ∧ Good T H q.d l c ∧
    ∀ o xs H', Same H H' → H o = none → H' o = some (.lst xs) → DpAll K H' xs (oddD ts) → Good T H' q.d l c → D.nx { q with v7 := some (.ref o) }.st H') := by
  refine PS.imp (ps_set (X := LX P w K mg base f cdv A outer s0 H0 E) (i := 7) ndL rfl (Or.inl rfl) (pe_lst (pa_cons pe_non (pa_cons pe_int (pa_cons pe_str (pa_cons (pe_tup pa_nil) (pa_cons (pe_tup (pa_cons (pv 4) pa_nil)) (pa_cons (pe_tup (pa_cons (pv 4) (pa_cons pe_str (pa_cons pe_str pa_nil))))
    (pa_cons (pe_lst (pa_cons (pv 4) (pa_cons pe_str pa_nil))) (pa_cons (pe_tup (pa_cons (pe_callTy (X := LX P w K mg base f cdv A outer s0 H0 E) call_list_of (by rfl) G.lst (by decide +kernel) (pa_cons (pv 4) pa_nil)) (pa_cons pe_str pa_nil)))
    (pa_cons (pe_tup (pa_cons (pe_op op_repT (pe_tup (pa_cons pe_str pa_nil)) pe_int) (pa_cons pe_str pa_nil))) pa_nil))))))))))) fun D σ H h => ?_
  obtain ⟨q, l, c, p, ts, rfl, e4, ha, g0, k⟩ := h
  have v4 : ∀ {x : Option V}, q.v4 = x → (q.st)[4]? = some x := fun e => by rw [← e]; rfl
  refine ⟨Nat.zero_le _, fun t1 n1 => ?_⟩
  have s1 : Same H (upd H t1 (.tup [])) := new_same n1
  have D1 : DpAll K (upd H t1 (.tup [])) [.non, .int 5, .str "num", .ref t1] [.none, .int 5, .str "num", .tuple []] := .cons .non (.cons (.int 5) (.cons (.str "num") (.cons (.tup (SqT.of upd_same) .nil) .nil)))
  generalize upd H t1 (.tup []) = H1 at s1 D1 ⊢
  have a1 := ha.same s1
  refine ⟨.ref p, v4 e4, by show 1 ≤ sizeLine; decide, fun t2 n2 => ?_⟩
  have s2 : Same H1 (upd H1 t2 (.tup [.ref p])) := new_same n2
  have D2 := dps_app (Kp.dps (.of s2) D1) (.cons (.tup (SqT.of (upd_same (H := H1) (a := t2) (o := .tup [.ref p]))) (.cons (a1.same s2).dp .nil)) .nil)
  generalize upd H1 t2 (.tup [.ref p]) = H2 at s2 D2 ⊢
  have a2 := a1.same s2
  refine ⟨.ref p, v4 e4, by show 3 ≤ sizeLine; decide, fun t3 n3 => ?_⟩
  have s3 : Same H2 (upd H2 t3 (.tup [.ref p, .str "box", .str "num"])) := new_same n3
  have D3 := dps_app (Kp.dps (.of s3) D2) (.cons (.tup (SqT.of (upd_same (H := H2) (a := t3) (o := .tup [.ref p, .str "box", .str "num"]))) (.cons (a2.same s3).dp (.cons (.str "box") (.cons (.str "num") .nil)))) .nil)
  generalize upd H2 t3 (.tup [.ref p, .str "box", .str "num"]) = H3 at s3 D3 ⊢
  have a3 := a2.same s3
  refine ⟨.ref p, v4 e4, by show 2 ≤ sizeLine; decide, fun t4 n4 => ?_⟩
  have s4 : Same H3 (upd H3 t4 (.lst [.ref p, .str "num"])) := new_same n4
  have D4 := dps_app (Kp.dps (.of s4) D3) (.cons (.lst (SqL.of (upd_same (H := H3) (a := t4) (o := .lst [.ref p, .str "num"]))) (.cons (a3.same s4).dp (.cons (.str "num") .nil))) .nil)
  generalize upd H3 t4 (.lst [.ref p, .str "num"]) = H4 at s4 D4 ⊢
  have a4 := a3.same s4
  refine ⟨.ref p, v4 e4, p, _, rfl, .inr (SqT.of a4.1), fun b5 m5 => ⟨by show 2 ≤ sizeLine; decide, fun t5 n5 => ?_⟩⟩
  have s5 : Same H4 (upd H4 b5 (.lst (ts.map V.str))) := new_same m5
  have D5 : Dp K (upd H4 b5 (.lst (ts.map V.str))) (.ref b5) (.list (ts.map PyData.str)) := .lst (SqL.of upd_same) (dp_strs ts)
  generalize upd H4 b5 (.lst (ts.map V.str)) = H5 at s5 D5 n5 ⊢
  have s6 : Same H5 (upd H5 t5 (.tup [.ref b5, .str "num"])) := new_same n5
  have D6 := dps_app (Kp.dps (.of (s5.trans s6)) D4) (.cons (.tup (SqT.of (upd_same (H := H5) (a := t5) (o := .tup [.ref b5, .str "num"]))) (.cons (Kp.dp (.of s6) D5) (.cons (.str "num") .nil))) .nil)
  generalize upd H5 t5 (.tup [.ref b5, .str "num"]) = H6 at s6 D6 ⊢
  refine ⟨by show 1 ≤ sizeLine; decide, fun t6 n6 => ⟨t6, 4, [.str "num"], rfl, rfl, SqT.of upd_same, by simp, by decide, by decide, by decide, fun t7 n7 => ⟨by show 2 ≤ sizeLine; decide, fun t8 n8 => ?_⟩⟩⟩
  have s7 : Same H6 (upd H6 t6 (.tup [.str "num"])) := new_same n6
  generalize upd H6 t6 (.tup [.str "num"]) = H7 at s7 n7 n8 ⊢
  have s8 : Same H7 (upd H7 t7 (.tup [.str "num", .str "num", .str "num", .str "num"])) := new_same n7
  have D8 : Dp K (upd H7 t7 (.tup [.str "num", .str "num", .str "num", .str "num"])) (.ref t7) (.tuple [.str "num", .str "num", .str "num", .str "num"]) := .tup (SqT.of upd_same) (dp_strs ["num", "num", "num", "num"])
  rw [show (List.replicate (Int.toNat 4) [V.str "num"]).flatten = [.str "num", .str "num", .str "num", .str "num"] from rfl] at n8 ⊢
  generalize upd H7 t7 (.tup [.str "num", .str "num", .str "num", .str "num"]) = H8 at s8 D8 n8 ⊢
  have s9 : Same H8 (upd H8 t8 (.tup [.ref t7, .str "do"])) := new_same n8
  have D9 := dps_app (Kp.dps (.of ((s7.trans s8).trans s9)) D6) (.cons (.tup (SqT.of (upd_same (H := H8) (a := t8) (o := .tup [.ref t7, .str "do"]))) (.cons (Kp.dp (.of s9) D8) (.cons (.str "do") .nil))) .nil)
  generalize upd H8 t8 (.tup [.ref t7, .str "do"]) = H9 at s9 D9 ⊢
  refine ⟨by show 9 ≤ sizeLine; decide, fun o no => ?_⟩
  have sA : Same H H9 := ((((((((s1.trans s2).trans s3).trans s4).trans s5).trans s6).trans s7).trans s8).trans s9)
  have sO := new_same (o := .lst [.non, .int 5, .str "num", .ref t1, .ref t2, .ref t3, .ref t4, .ref t5, .ref t8]) no
  exact k o _ _ (sA.trans sO) (sA.free no) upd_same (Kp.dps (.of sO) D9) (g0.same (sA.trans sO))
def moreD : List PyData := [.tuple [.tuple [.str "num"], .str "box"], .tuple [.tuple [.none], .str "num"], .tuple [.tuple [], .none], .tuple [.tuple [], .str "numb"]]
theorem bad_sorts (ts : List Str) : ∀ d ∈ oddD ts ++ moreD, sortD d = false := by
  intro d hd
  rcases List.mem_append.mp hd with h | h
  · simp only [oddD, List.mem_cons, List.not_mem_nil, or_false] at h
    rcases h with rfl | rfl | rfl | rfl | rfl | rfl | rfl | rfl | rfl
    all_goals rfl
  · have all4 : ∀ d ∈ moreD, sortD d = false := by decide +kernel
    exact all4 d h
/-- for bad in odd + [..]: if is_sort(bad) is not False: return False -/
theorem st7 (G : LawTop P w K mg base cN cS) (hr : RoomL f cdv A s0) : PS (LX P w K mg base f cdv A outer s0 H0 E) (lb 7) (fun D σ H => ∃ (q : Fr) (l c o : Addr) (ts : List Str) (xs : List V), σ = q.st ∧ q.v7 = some (.ref o) ∧ H o = some (.lst xs) ∧ DpAll K H xs (oddD ts) ∧ Good T H q.d l c ∧
    ∀ v6 H', Same H H' → Good T H' q.d l c → D.nx { q with v6 := v6 }.st H') := by
  obtain ⟨fP, dP, gP, _⟩ := G.sort
  have hr2 : Room 2 (LX P w K mg base f cdv A outer s0 H0 E).A := hr.mono (show 2 ≤ 9 by decide)
  refine PS.imp (ps_for (X := LX P w K mg base f cdv A outer s0 H0 E) PassesOwn.never rfl
    (pi_list (pe_op op_cat (pv 7) (pe_lst (pa_cons (pe_tup (pa_cons (pe_tup (pa_cons pe_str pa_nil)) (pa_cons pe_str pa_nil))) (pa_cons (pe_tup (pa_cons (pe_tup (pa_cons pe_non pa_nil)) (pa_cons pe_str pa_nil)))
      (pa_cons (pe_tup (pa_cons (pe_tup pa_nil) (pa_cons pe_non pa_nil))) (pa_cons (pe_tup (pa_cons (pe_tup pa_nil) (pa_cons pe_str pa_nil))) pa_nil)))))))
    (pg_name (i := 6) ndL rfl (Or.inr rfl)) (pss_one (ps_if (pt_cmpR op_isnot_bl (gP.pe (X := LX P w K mg base f cdv A outer s0 H0 E) hr2 pass0 (pa_cons (pv 6) pa_nil) rfl) pe_bl (nomark _)) (pss_one (ps_ret pe_bl)) pss_nil))) fun D σ H h => ?_
  obtain ⟨q, l, c, o, ts, xs, rfl, e7, eo, hD, g0, k⟩ := h
  refine ⟨.ref o, by rw [← e7]; rfl, ?_⟩
  refine ⟨by show 1 ≤ sizeLine; decide, fun t1 n1 => ⟨by show 2 ≤ sizeLine; decide, fun t2 n2 => ?_⟩⟩
  have s1 : Same H (upd H t1 (.tup [.str "num"])) := new_same n1
  have D1 : Dp K (upd H t1 (.tup [.str "num"])) (.ref t1) (.tuple [.str "num"]) := .tup (SqT.of upd_same) (.cons (.str "num") .nil)
  generalize upd H t1 (.tup [.str "num"]) = H1 at s1 D1 n2 ⊢
  have s2 : Same H1 (upd H1 t2 (.tup [.ref t1, .str "box"])) := new_same n2
  have D2 : DpAll K (upd H1 t2 (.tup [.ref t1, .str "box"])) [.ref t2] [.tuple [.tuple [.str "num"], .str "box"]] := .cons (.tup (SqT.of upd_same) (.cons (Kp.dp (.of s2) D1) (.cons (.str "box") .nil))) .nil
  generalize upd H1 t2 (.tup [.ref t1, .str "box"]) = H2 at s2 D2 ⊢
  refine ⟨by show 1 ≤ sizeLine; decide, fun t3 n3 => ⟨by show 2 ≤ sizeLine; decide, fun t4 n4 => ?_⟩⟩
  have s3 : Same H2 (upd H2 t3 (.tup [.non])) := new_same n3
  have D3 : Dp K (upd H2 t3 (.tup [.non])) (.ref t3) (.tuple [.none]) := .tup (SqT.of upd_same) (.cons .non .nil)
  generalize upd H2 t3 (.tup [.non]) = H3 at s3 D3 n4 ⊢
  have s4 : Same H3 (upd H3 t4 (.tup [.ref t3, .str "num"])) := new_same n4
  have D4 := dps_app (Kp.dps (.of (s3.trans s4)) D2) (.cons (.tup (SqT.of (upd_same (H := H3) (a := t4) (o := .tup [.ref t3, .str "num"]))) (.cons (Kp.dp (.of s4) D3) (.cons (.str "num") .nil))) .nil)
  generalize upd H3 t4 (.tup [.ref t3, .str "num"]) = H4 at s4 D4 ⊢
  refine ⟨Nat.zero_le _, fun t5 n5 => ⟨by show 2 ≤ sizeLine; decide, fun t6 n6 => ?_⟩⟩
  have s5 : Same H4 (upd H4 t5 (.tup [])) := new_same n5
  have D5 : Dp K (upd H4 t5 (.tup [])) (.ref t5) (.tuple []) := .tup (SqT.of upd_same) .nil
  generalize upd H4 t5 (.tup []) = H5 at s5 D5 n6 ⊢
  have s6 : Same H5 (upd H5 t6 (.tup [.ref t5, .non])) := new_same n6
  have D6 := dps_app (Kp.dps (.of (s5.trans s6)) D4) (.cons (.tup (SqT.of (upd_same (H := H5) (a := t6) (o := .tup [.ref t5, .non]))) (.cons (Kp.dp (.of s6) D5) (.cons .non .nil))) .nil)
  generalize upd H5 t6 (.tup [.ref t5, .non]) = H6 at s6 D6 ⊢
  refine ⟨Nat.zero_le _, fun t7 n7 => ⟨by show 2 ≤ sizeLine; decide, fun t8 n8 => ?_⟩⟩
  have s7 : Same H6 (upd H6 t7 (.tup [])) := new_same n7
  have D7 : Dp K (upd H6 t7 (.tup [])) (.ref t7) (.tuple []) := .tup (SqT.of upd_same) .nil
  generalize upd H6 t7 (.tup []) = H7 at s7 D7 n8 ⊢
  have s8 : Same H7 (upd H7 t8 (.tup [.ref t7, .str "numb"])) := new_same n8
  have D8 := dps_app (Kp.dps (.of (s7.trans s8)) D6) (.cons (.tup (SqT.of (upd_same (H := H7) (a := t8) (o := .tup [.ref t7, .str "numb"]))) (.cons (Kp.dp (.of s8) D7) (.cons (.str "numb") .nil))) .nil)
  generalize upd H7 t8 (.tup [.ref t7, .str "numb"]) = H8 at s8 D8 ⊢
  have sA : Same H H8 := (((((((s1.trans s2).trans s3).trans s4).trans s5).trans s6).trans s7).trans s8)
  refine ⟨by show 4 ≤ sizeLine; decide, fun u nu => ?_⟩
  have su := new_same (o := .lst [.ref t2, .ref t4, .ref t6, .ref t8]) nu
  have lx : xs.length = 9 := dps_len hD
  refine ⟨o, u, xs, _, rfl, rfl, su _ _ (sA _ _ eo), upd_same, by rw [lx]; show 13 ≤ sizeLine; decide, fun z nz => ?_⟩
  have sz := new_same (o := .lst (xs ++ [.ref t2, .ref t4, .ref t6, .ref t8])) nz
  have sB := (sA.trans su).trans sz
  have hB := dps_app (Kp.dps (.of sB) hD) (Kp.dps (.of (su.trans sz)) D8)
  have ez : (upd (upd H8 u (.lst [.ref t2, .ref t4, .ref t6, .ref t8])) z (.lst (xs ++ [.ref t2, .ref t4, .ref t6, .ref t8]))) z = some (.lst (xs ++ [.ref t2, .ref t4, .ref t6, .ref t8])) := upd_same
  generalize upd (upd H8 u (.lst [.ref t2, .ref t4, .ref t6, .ref t8])) z (.lst (xs ++ [.ref t2, .ref t4, .ref t6, .ref t8])) = H9 at sB hB ez ⊢
  refine ⟨z, rfl, ⟨_, SqL.of ez⟩, for_list (K := K) (a := z) (xs := xs ++ [.ref t2, .ref t4, .ref t6, .ref t8]) (fun i σ H' => Same H9 H' ∧ ∃ v6, σ = { q with v6 := v6 }.st) ⟨Same.refl _, q.v6, rfl⟩ (fun i σ H' _ ⟨s, _⟩ => SqL.of (s _ _ ez)) ?_ ?_⟩
  · rintro i x σ H' hx ⟨s, v6, rfl⟩
    obtain ⟨d, e, hd⟩ := dps_get hB hx
    have no : sortD d = false := bad_sorts ts d (List.mem_of_getElem? e)
    refine ⟨x, rfl, x, d, rfl, Kp.dp (.of s) hd, fun H2 s2 => ?_⟩
    rw [no]
    exact ⟨false, false, rfl, rfl, _, rfl, iteNS rfl ⟨s.trans s2, some x, rfl⟩⟩
  · rintro σ H' ⟨s, v6, rfl⟩
    exact k v6 H' (sB.trans s) (g0.same (sB.trans s))
end
end Jd
/-! law of k01: drawn names; a term without parts over them. -/
namespace Jd
open PySem PySem.Spec PyProof.Rows L2 RZ LamX Lm Dk
section
variable {K : PySem.W.Frag} {H : Hp}
theorem dps_by {vs : List V} {ds : List PyData} (hl : vs.length = ds.length) (h : ∀ (i : Nat) (v : V) (d : PyData), vs[i]? = some v → ds[i]? = some d → Dp K H v d) : DpAll K H vs ds := by
  have main : ∀ (vs : List V) (ds : List PyData), vs.length = ds.length → (∀ (i : Nat) (v : V) (d : PyData), vs[i]? = some v → ds[i]? = some d → Dp K H v d) → DpAll K H vs ds := by
    intro vs
    induction vs with
    | nil =>
      intro ds hl _
      cases ds with
      | nil => exact .nil
      | cons _ _ => simp at hl
    | cons v vs ih =>
      intro ds hl h
      cases ds with
      | nil => simp at hl
      | cons d ds => exact .cons (h 0 v d rfl rfl) (ih ds (by simpa using hl) fun i v' d' a b => h (i + 1) v' d' (by simpa using a) (by simpa using b))
  exact main vs ds hl h
/-- drawn names as data -/
def nmData (nm : NmS) : List (Key × PyData) := nm.map fun q => (.inr q.1, .tuple [.tuple (q.2.1.map PyData.str), .str q.2.2])
theorem NmsAt.dps {p : Addr} {nm : NmS} (n : NmsAt H p nm) : ∃ kvs : List (Key × V), H p = some (.dK kvs) ∧ kvs.map Prod.fst = nm.map (fun q => (.inr q.1 : Key)) ∧ DpAll K H (kvs.map Prod.snd) (nm.map fun q => .tuple [.tuple (q.2.1.map PyData.str), .str q.2.2]) := by
  obtain ⟨vs, hl, e, h⟩ := n
  refine ⟨_, e, ?_, ?_⟩
  · rw [List.map_fst_zip (by rw [List.length_map]; omega)]
  · rw [List.map_snd_zip (by rw [List.length_map]; omega)]
    refine dps_by (by rw [List.length_map]; exact hl) fun i v d a b => ?_
    rw [List.getElem?_map] at b
    cases eq : nm[i]? with
    | none => rw [eq] at b; cases b
    | some q =>
      rw [eq] at b
      cases b
      exact (h i v q a eq).dp
theorem NmsAt.nmD {p : Addr} {nm : NmS} (n : NmsAt H p nm) : NmD K H p (toNm nm) := by
  obtain ⟨kvs, e, h1, h2⟩ := n.dps (K := K)
  refine ⟨kvs, e, ?_, ?_⟩
  · rw [h1]
    unfold toNm
    rw [List.map_map]
    rfl
  · unfold toNm
    rw [List.map_map]
    exact h2
theorem word_len {x : Str} (h : wordD (.str x) = true) : x.length ≤ sizeLine := by
  have z : x.length ≤ 8 := by
    unfold wordD at h
    simp only [Bool.and_eq_true, Bool.not_eq_true', decide_eq_false_iff_not, decide_eq_true_eq] at h
    omega
  exact Nat.le_of_lt (small1000 (by omega))
theorem NmsAt.nmAt {p : Addr} {nm : NmS} (n : NmsAt H p nm) (g : GoodNm nm) : NmAt K H (.ref p) (some (nmData nm)) ∧ namesD (some (nmData nm)) = true := by
  obtain ⟨kvs, e, h1, h2⟩ := n.dps (K := K)
  refine ⟨.dct e ?_ ?_ fun q hq x hx => ?_, ?_⟩
  · rw [h1]
    unfold nmData
    rw [List.map_map]
    rfl
  · unfold nmData
    rw [List.map_map]
    exact h2
  · unfold nmData at hq
    obtain ⟨r, hr, rfl⟩ := List.mem_map.mp hq
    cases hx
    exact word_len (g.2 r hr).1
  · have l4 : (nmData nm).length ≤ 4 := by
      unfold nmData
      rw [List.length_map]
      exact g.1
    have l5 : ¬ 4 < (nmData nm).length := by omega
    simp only [namesD, l5, decide_false, Bool.not_false, Bool.true_and, List.all_eq_true]
    intro q hq
    unfold nmData at hq
    obtain ⟨r, hr, rfl⟩ := List.mem_map.mp hq
    obtain ⟨a, b⟩ := g.2 r hr
    show (wordD (.str r.1) && sortD _) = true
    rw [a, show sortD _ = true from b]
    rfl
theorem skip_form (n : Int) (l : NmL) : formD n l (.tuple [.str "skip"]) = true := by
  simp only [formD, show ¬ (("skip" : Str) = "name") from by decide +kernel, if_false, show forms.lookup ("skip" : Str) = some [] from by decide +kernel]
  rfl
theorem skip_word (l : NmL) : wordOk l [.str "skip"] := .inr ⟨by decide +kernel, [], by decide +kernel⟩
theorem skip_paths : pathsD [.str "skip"] = some [] := by
  simp only [pathsD, show ¬ (("skip" : Str) = "name") from by decide +kernel, if_false, show partsT.lookup ("skip" : Str) = some [] from by decide +kernel]
  rfl
theorem skip_given (l : NmL) : givenD l [] [.str "skip"] = some ("do" : Str) := by
  simp only [givenD, show ¬ (("skip" : Str) = "name") from by decide +kernel, show ¬ (("skip" : Str) = "never") from by decide +kernel, if_false, show givens.lookup ("skip" : Str) = some ("do" : Str) from by decide +kernel]
end
/-- what lets no error out passes -/
theorem passF {X : Cx} : Passes (L2.CX X.prog X.w) X (fun _ _ _ => False) := fun _ _ _ _ _ _ _ h => by
  obtain ⟨_, _, _, _, _, _, _, _, _, _, _, _, z⟩ := h
  exact z.elim
section
variable {P : Program} {w : World} {K : PySem.W.Frag} {mg : Str → Option Value} {base : Heap} {cN cS f : Addr} {cdv : Value} {A : Around} {outer : List Env} {s0 : Shared} {H0 : Hp} {E : XK} {T : List (Addr × Str)}
/-- names_here = _law_names(draw, 4, 3) -/
theorem st8 (G : LawTop P w K mg base cN cS) (hr : RoomL f cdv A s0) : PS (LX P w K mg base f cdv A outer s0 H0 E) (lb 8) (fun D σ H => ∃ (q : Fr) (l c : Addr), σ = q.st ∧ Good T H q.d l c ∧ ∀ p nm H', NmsAt H' p nm → GoodNm nm → Good T H' q.d l c → D.nx { q with v8 := some (.ref p) }.st H') := by
  obtain ⟨fP, dP, gP⟩ := G.names
  refine PS.imp (ps_set (X := LX P w K mg base f cdv A outer s0 H0 E) (i := 8) ndL rfl (Or.inl rfl) (gP.pe (X := LX P w K mg base f cdv A outer s0 H0 E) (hr.mono (show 4 ≤ 9 by decide)) pass0 (pa_cons (pv 1) (pa_cons pe_int (pa_cons pe_int pa_nil))) rfl)) fun D σ H h => ?_
  obtain ⟨q, l, c, rfl, g0, k⟩ := h
  exact ⟨_, rfl, q.d, l, c, rfl, g0.D, fun p nm H' D' B' _ hn hg => k p nm H' hn hg (g0.but D' B')⟩
/-- is_term(2, names_here, ("skip",)) is not True: never -/
theorem st9 (G : LawTop P w K mg base cN cS) (hr : RoomL f cdv A s0) : PS (LX P w K mg base f cdv A outer s0 H0 E) (lb 9) (fun D σ H => ∃ (q : Fr) (p : Addr) (nm : NmS), σ = q.st ∧ q.v8 = some (.ref p) ∧ NmsAt H p nm ∧ GoodNm nm ∧ ∀ H', Same H H' → D.nx q.st H') := by
  obtain ⟨fP, dP, gP⟩ := G.isTerm
  refine PS.imp (ps_if (pt_cmpR op_isnot_bl (gP.pe (X := LX P w K mg base f cdv A outer s0 H0 E) (hr.mono (show 7 ≤ 9 by decide)) passF (pa_cons pe_int (pa_cons (pv 8) (pa_cons (pe_tup (pa_cons pe_str pa_nil)) pa_nil))) rfl) pe_bl (nomark _)) (pss_one (ps_ret pe_bl)) pss_nil) fun D σ H h => ?_
  obtain ⟨q, p, nm, rfl, e8, hn, hg, k⟩ := h
  refine ⟨.ref p, by rw [← e8]; rfl, by show 1 ≤ sizeLine; decide, fun t nt => ?_⟩
  have st : Same H (upd H t (.tup [.str "skip"])) := new_same nt
  obtain ⟨n1, n2⟩ := (hn.same st).nmAt (K := K) hg
  refine ⟨_, _, _, rfl, .inr ⟨2, p, t, toNm nm, _, _, _, "do", rfl, rfl, rfl, by decide +kernel, n1, n2, (hn.same st).nmD, SqT.of upd_same, .cons (.str "skip") .nil, ?_, skip_form 2 _, skip_word _, skip_paths, skip_given _, fun H2 s2 => ?_⟩⟩
  · intro x hx
    simp at hx
    rw [hx]
    decide +kernel
  · exact ⟨true, true, rfl, rfl, _, rfl, iteNS rfl (k H2 (st.trans s2))⟩
end
end Jd
/-! law of k01: values near names. -/
namespace Jd
open PySem PySem.Spec PyProof.Rows L2 RZ LamX Lm Dk
section
variable {K : PySem.W.Frag} {H : Hp} {σ : L2.St}
/-- a reading that only makes a datum -/
def Makes (K : PySem.W.Frag) (te : TE) (sd : PyData) (σ : L2.St) : Prop := ∀ (H1 : Hp) (Q : VK), (∀ v H2, Same H1 H2 → Dp K H2 v sd → Q v H2) → te σ H1 Q
abbrev numS : PyData := .tuple [.tuple [], .str "num"]
theorem makes_numS : Makes K (tTup (tCons (tTup tNil) (tCons (tC (.str "num")) tNil))) numS σ := fun H1 Q k => by
  refine ⟨Nat.zero_le _, fun b nb => ⟨by show 2 ≤ sizeLine; decide, fun t nt => ?_⟩⟩
  have sb : Same H1 (upd H1 b (.tup [])) := new_same nb
  have Db : Dp K (upd H1 b (.tup [])) (.ref b) (.tuple []) := .tup (SqT.of upd_same) .nil
  generalize upd H1 b (.tup []) = H2 at sb Db nt ⊢
  have st : Same H2 (upd H2 t (.tup [.ref b, .str "num"])) := new_same nt
  exact k _ _ (sb.trans st) (.tup (SqT.of upd_same) (.cons (Kp.dp (.of st) Db) (.cons (.str "num") .nil)))
abbrev boxS : PyData := .tuple [.tuple [.str "num"], .str "box"]
theorem makes_boxS : Makes K (tTup (tCons (tTup (tCons (tC (.str "num")) tNil)) (tCons (tC (.str "box")) tNil))) boxS σ := fun H1 Q k => by
  refine ⟨by show 1 ≤ sizeLine; decide, fun b nb => ⟨by show 2 ≤ sizeLine; decide, fun t nt => ?_⟩⟩
  have sb : Same H1 (upd H1 b (.tup [.str "num"])) := new_same nb
  have Db : Dp K (upd H1 b (.tup [.str "num"])) (.ref b) (.tuple [.str "num"]) := .tup (SqT.of upd_same) (.cons (.str "num") .nil)
  generalize upd H1 b (.tup [.str "num"]) = H2 at sb Db nt ⊢
  have st : Same H2 (upd H2 t (.tup [.ref b, .str "box"])) := new_same nt
  exact k _ _ (sb.trans st) (.tup (SqT.of upd_same) (.cons (Kp.dp (.of st) Db) (.cons (.str "box") .nil)))
theorem makes_str (x : Str) : Makes K (tC (.str x)) (.str x) σ := fun H1 Q k => k _ _ (Same.refl _) (.str x)
/-- {k: v} -/
theorem disp1 {tk tv : TE} {k : Key} {sd : PyData} {Q : VK} (hk : ∀ H1 (Q : VK), Q (kV k) H1 → tk σ H1 Q) (hv : Makes K tv sd σ) (hz : ∀ x, keyD k = .str x → x.length ≤ sizeLine) (q : ∀ p H', Same H H' → NmAt K H' (.ref p) (some [(k, sd)]) → Q (.ref p) H') :
    tDisp [(tk, tv)] σ H Q := by
  intro p np
  have sp : Same H (upd H p (.dK [])) := new_same np
  refine hk _ _ (hv _ _ fun v H2 s2 hd => ?_)
  have e2 : H2 p = some (.dK []) := s2 _ _ upd_same
  refine ⟨e2, [(k, v)], rfl, by show 1 ≤ 15; decide, ?_⟩
  have em : mergeK [] [(k, v)] = [(k, v)] := by simp [mergeK, putK]
  rw [em]
  refine q p _ (fun b o e => ?_) (.dct upd_same rfl (dps_lock e2 (.cons hd .nil)) fun r hr x hx => ?_)
  · rw [upd_ne (ne_of_none e np)]
    exact s2 _ _ (sp _ _ e)
  · rw [List.mem_singleton] at hr
    rw [hr] at hx
    exact hz x hx
/-- a thing that is no names -/
def BadNm (K : PySem.W.Frag) (H : Hp) (v : V) : Prop := ∃ o, NmAt K H v o ∧ namesD o = false
theorem BadNm.kp {H' : Hp} {v : V} (b : BadNm K H v) (s : Kp H H') : BadNm K H' v := by
  obtain ⟨o, h, e⟩ := b
  exact ⟨o, s.nm h, e⟩
theorem BadNm.no {v : V} {d : PyData} (h : Dp K H v d) : BadNm K H v := ⟨none, .no h, rfl⟩
end
section
variable {P : Program} {w : World} {K : PySem.W.Frag} {mg : Str → Option Value} {base : Heap} {cN cS f : Addr} {cdv : Value} {A : Around} {outer : List Env} {s0 : Shared} {H0 : Hp} {E : XK} {T : List (Addr × Str)}
/-- odd = [None, 5, [], {"": ..}, ..] -/
theorem st10 (G : LawTop P w K mg base cN cS) (hr : RoomL f cdv A s0) : PS (LX P w K mg base f cdv A outer s0 H0 E) (lb 10) (fun D σ H => ∃ (q : Fr) (l c : Addr), σ = q.st ∧ Good T H q.d l c ∧ ∀ o xs Hb H', H' o = some (.lst xs) → H o = none → xs.length = 10 → Hb o = none → Same Hb H' → (∀ x ∈ xs, BadNm K Hb x) → Good T H' q.d l c → D.nx { q with v7 := some (.ref o) }.st H') := by
  refine PS.imp (ps_set (X := LX P w K mg base f cdv A outer s0 H0 E) (i := 7) ndL rfl (Or.inl rfl) (pe_lst (pa_cons pe_non (pa_cons pe_int (pa_cons (pe_lst pa_nil)
    (pa_cons (pe_disp (pps_cons pe_str (pe_tup (pa_cons (pe_tup pa_nil) (pa_cons pe_str pa_nil))) pps_nil) rfl rfl (by simp) (by decide))
    (pa_cons (pe_disp (pps_cons pe_str (pe_tup (pa_cons (pe_tup pa_nil) (pa_cons pe_str pa_nil))) pps_nil) rfl rfl (by simp) (by decide))
    (pa_cons (pe_disp (pps_cons pe_int (pe_tup (pa_cons (pe_tup pa_nil) (pa_cons pe_str pa_nil))) pps_nil) rfl rfl (by simp) (by decide))
    (pa_cons (pe_disp (pps_cons (pe_op op_mulS pe_str pe_int) (pe_tup (pa_cons (pe_tup pa_nil) (pa_cons pe_str pa_nil))) pps_nil) rfl rfl (by simp) (by decide))
    (pa_cons (pe_disp (pps_cons pe_str pe_str pps_nil) rfl rfl (by simp) (by decide))
    (pa_cons (pe_disp (pps_cons pe_str (pe_tup (pa_cons (pe_tup (pa_cons pe_str pa_nil)) (pa_cons pe_str pa_nil))) pps_nil) rfl rfl (by simp) (by decide))
    (pa_cons (pe_disp (pps_cons pe_str (pe_tup (pa_cons (pe_tup pa_nil) (pa_cons pe_str pa_nil))) pps_nil) rfl rfl (by simp) (by decide)) pa_nil)))))))))))) fun D σ H h => ?_
  obtain ⟨q, l, c, rfl, g0, k⟩ := h
  refine ⟨Nat.zero_le _, fun b nb => ?_⟩
  have s1 : Same H (upd H b (.lst [])) := new_same nb
  have B1 : ∀ x ∈ [V.non, .int 5, .ref b], BadNm K (upd H b (.lst [])) x := fun x hx => by
    simp at hx
    rcases hx with rfl | rfl | rfl
    · exact .no .non
    · exact .no (.int 5)
    · exact .no (.lst (SqL.of upd_same) .nil)
  generalize upd H b (.lst []) = H1 at s1 B1 ⊢
  refine disp1 (K := K) (k := .inr "") (fun _ _ q => q) makes_numS (fun x hx => by cases hx; decide +kernel) fun p1 H2 s2 n2 => ?_
  refine disp1 (K := K) (k := .inr "A") (fun _ _ q => q) makes_numS (fun x hx => by cases hx; decide +kernel) fun p2 H3 s3 n3 => ?_
  refine disp1 (K := K) (k := .inl 5) (fun _ _ q => q) makes_numS (fun x hx => by cases hx) fun p3 H4 s4 n4 => ?_
  refine disp1 (K := K) (k := .inr (Txt.mul "a" 9)) (fun _ _ q => ⟨"a", 9, rfl, rfl, by decide +kernel, by decide, by decide, q⟩) makes_numS (fun x hx => by cases hx; decide +kernel) fun p4 H5 s5 n5 => ?_
  refine disp1 (K := K) (k := .inr "x") (fun _ _ q => q) (makes_str "num") (fun x hx => by cases hx; decide +kernel) fun p5 H6 s6 n6 => ?_
  refine disp1 (K := K) (k := .inr "x") (fun _ _ q => q) makes_boxS (fun x hx => by cases hx; decide +kernel) fun p6 H7 s7 n7 => ?_
  refine disp1 (K := K) (k := .inr "x1") (fun _ _ q => q) makes_numS (fun x hx => by cases hx; decide +kernel) fun p7 H8 s8 n8 => ?_
  refine ⟨by show 10 ≤ sizeLine; decide, fun o no => ?_⟩
  have so := new_same (o := .lst [.non, .int 5, .ref b, .ref p1, .ref p2, .ref p3, .ref p4, .ref p5, .ref p6, .ref p7]) no
  have sA : Same H H8 := (((((((s1.trans s2).trans s3).trans s4).trans s5).trans s6).trans s7).trans s8)
  refine k o _ H8 _ upd_same (sA.free no) rfl no so (fun x hx => ?_) (g0.same (sA.trans so))
  simp only [List.mem_cons, List.not_mem_nil, or_false] at hx
  have up : ∀ {x : V}, BadNm K H1 x → BadNm K H8 x := fun h => h.kp (.of ((((((s2.trans s3).trans s4).trans s5).trans s6).trans s7).trans s8))
  rcases hx with rfl | rfl | rfl | rfl | rfl | rfl | rfl | rfl | rfl | rfl
  · exact up (B1 _ (by simp))
  · exact up (B1 _ (by simp))
  · exact up (B1 _ (by simp))
  · exact BadNm.kp ⟨_, n2, by decide +kernel⟩ (.of (((((s3.trans s4).trans s5).trans s6).trans s7).trans s8))
  · exact BadNm.kp ⟨_, n3, by decide +kernel⟩ (.of ((((s4.trans s5).trans s6).trans s7).trans s8))
  · exact BadNm.kp ⟨_, n4, by decide +kernel⟩ (.of (((s5.trans s6).trans s7).trans s8))
  · exact BadNm.kp ⟨_, n5, by decide +kernel⟩ (.of ((s6.trans s7).trans s8))
  · exact BadNm.kp ⟨_, n6, by decide +kernel⟩ (.of (s7.trans s8))
  · exact BadNm.kp ⟨_, n7, by decide +kernel⟩ (.of s8)
  · exact ⟨_, n8, by decide +kernel⟩
end
end Jd
/-! law of k01: five names, too many. -/
namespace Jd
open PySem PySem.Spec PyProof.Rows L2 RZ LamX Lm Dk
abbrev five : List Str := ["a", "b", "c", "d", "e"]
section
variable {P : Program} {w : World} {K : PySem.W.Frag} {mg : Str → Option Value} {base : Heap} {cN cS f : Addr} {cdv : Value} {A : Around} {outer : List Env} {s0 : Shared} {H0 : Hp} {E : XK} {T : List (Addr × Str)} {H : Hp}
/-- five pairs so far -/
def Pairs5 (H : Hp) (i : Nat) (ts : List Addr) (kvs : List (Key × V)) : Prop := ts.length = i ∧ kvs.map Prod.fst = (five.take i).map (fun y => (.inr y : Key)) ∧ Paired (fun p kv => H p = some (.tup [kV kv.1, kv.2])) ts kvs ∧ ∀ v ∈ kvs.map Prod.snd, SortAt H v [] "num"
theorem paired_mono {α β : Type} {F G : α → β → Prop} (h : ∀ a b, F a b → G a b) : ∀ {l : List α} {m : List β}, Paired F l m → Paired G l m
  | _, _, .nil => .nil
  | _, _, .cons a b => .cons (h _ _ a) (paired_mono h b)
theorem paired_len {α β : Type} {F : α → β → Prop} : ∀ {l : List α} {m : List β}, Paired F l m → l.length = m.length
  | _, _, .nil => rfl
  | _, _, .cons _ b => by simp [paired_len b]
theorem Pairs5.same {H' : Hp} {i : Nat} {ts : List Addr} {kvs : List (Key × V)} (p : Pairs5 H i ts kvs) (s : Same H H') : Pairs5 H' i ts kvs :=
  ⟨p.1, p.2.1, paired_mono (fun _ _ e => s _ _ e) p.2.2.1, fun v hv => (p.2.2.2 v hv).same s⟩
theorem Pairs5.off {i : Nat} {ts : List Addr} {kvs : List (Key × V)} {D : Addr} {xs : List V} {o : HO} (p : Pairs5 H i ts kvs) (e : H D = some (.lst xs)) : Pairs5 (upd H D o) i ts kvs :=
  ⟨p.1, p.2.1, paired_mono (fun a b q => (upd_ne (ne_of q e (by intro z; cases z))).trans q) p.2.2.1, fun v hv => (p.2.2.2 v hv).off e (by intro xs z; cases z)⟩
theorem merge5 {v1 v2 v3 v4 v5 : V} : mergeK [] [(.inr "a", v1), (.inr "b", v2), (.inr "c", v3), (.inr "d", v4), (.inr "e", v5)] = [((.inr "a" : Key), v1), (.inr "b", v2), (.inr "c", v3), (.inr "d", v4), (.inr "e", v5)] := by
  have n1 : ¬ (("a" : Str) = "b") := by decide +kernel
  have n2 : ¬ (("a" : Str) = "c") := by decide +kernel
  have n3 : ¬ (("a" : Str) = "d") := by decide +kernel
  have n4 : ¬ (("a" : Str) = "e") := by decide +kernel
  have n5 : ¬ (("b" : Str) = "c") := by decide +kernel
  have n6 : ¬ (("b" : Str) = "d") := by decide +kernel
  have n7 : ¬ (("b" : Str) = "e") := by decide +kernel
  have n8 : ¬ (("c" : Str) = "d") := by decide +kernel
  have n9 : ¬ (("c" : Str) = "e") := by decide +kernel
  have n10 : ¬ (("d" : Str) = "e") := by decide +kernel
  simp [mergeK, putK, n1, n2, n3, n4, n5, n6, n7, n8, n9, n10]
theorem five_map {v1 v2 v3 v4 v5 : V} : True := trivial
/-- odd.append(dict([(one, ((), "num")) for one in [..]])) -/
theorem st11 (G : LawTop P w K mg base cN cS) (hr : RoomL f cdv A s0) : PS (LX P w K mg base f cdv A outer s0 H0 E) (lb 11) (fun D σ H => ∃ (q : Fr) (l c o : Addr) (xs : List V), σ = q.st ∧ q.v7 = some (.ref o) ∧ H o = some (.lst xs) ∧ xs.length = 10 ∧ (∃ Hb, Hb o = none ∧ Same Hb H ∧ ∀ x ∈ xs, BadNm K Hb x) ∧ o ≠ q.d ∧ o ≠ l ∧ o ≠ c ∧ Good T H q.d l c ∧
    ∀ ys H', H' o = some (.lst ys) → ys.length = 11 → (∀ x ∈ ys, BadNm K H' x) → Good T H' q.d l c → D.nx q.st H') := by
  refine PS.imp (ps_expr (pe_bm PySem.F.plainAttrs_list PySem.F.slot_list_append PySem.F.type_list_append mt_append (pv 7) (pa_cons (pe_callTy (X := LX P w K mg base f cdv A outer s0 H0 E) (call_dictP rfl) (by rfl) G.dct (by decide +kernel) (pa_cons
    (pe_lc (own := [("one", 12)]) (g := gName 12) rfl ndL (pi_list (pe_lst (pa_cons pe_str (pa_cons pe_str (pa_cons pe_str (pa_cons pe_str (pa_cons pe_str pa_nil))))))) (blkOk_by (N := lawN) (sc := defScope sLaw) (by decide +kernel))
      (fun _ _ _ _ _ => pg_name (i := 12) ndL rfl (Or.inl rfl)) (fun _ _ _ _ _ => pts_nil) (fun _ _ _ _ _ => pe_tup (pa_cons (pv 12) (pa_cons (pe_tup (pa_cons (pe_tup pa_nil) (pa_cons pe_str pa_nil))) pa_nil)))) pa_nil)) pa_nil))) fun D σ H h => ?_
  obtain ⟨q, l, c, o, xs, rfl, e7, eo, lx, ⟨Hb, nb0, sB, hx⟩, od, ol, oc, g0, k⟩ := h
  refine ⟨.ref o, by rw [← e7]; rfl, .inl ⟨rfl, _, SqL.of eo⟩, ?_⟩
  refine ⟨by show 5 ≤ sizeLine; decide, fun w5 n5 => ?_⟩
  have s1 : Same H (upd H w5 (.lst [.str "a", .str "b", .str "c", .str "d", .str "e"])) := new_same n5
  have e1 : (upd H w5 (.lst [.str "a", .str "b", .str "c", .str "d", .str "e"])) w5 = some (.lst (five.map V.str)) := upd_same
  generalize upd H w5 (.lst [.str "a", .str "b", .str "c", .str "d", .str "e"]) = H1 at s1 e1 ⊢
  refine ⟨w5, rfl, ⟨_, SqL.of e1⟩, fun D1 nD1 => ?_⟩
  have wD : w5 ≠ D1 := ne_of_none e1 nD1
  refine lc_list (K := K) (a := w5) (xs := five.map V.str) (fun i H' => Same H1 H' ∧ ∃ ts kvs, H' D1 = some (.lst (ts.map V.ref)) ∧ Pairs5 H' i ts kvs)
    ⟨new_same nD1, [], [], upd_same, rfl, rfl, .nil, fun v hv => by simp at hv⟩ (fun i H' _ ⟨s, _⟩ => SqL.of (s _ _ e1)) ?_ ?_
  · rintro i x H' hx5 ⟨s, ts, kvs, eD, p5⟩
    obtain ⟨y, hy, rfl⟩ : ∃ y, five[i]? = some y ∧ x = .str y := by
      rw [List.getElem?_map] at hx5
      cases e : five[i]? with
      | none => rw [e] at hx5; cases hx5
      | some y => rw [e] at hx5; exact ⟨y, rfl, (Option.some.inj hx5).symm⟩
    refine ⟨rfl, ?_⟩
    refine ⟨.str y, rfl, Nat.zero_le _, fun b nb => ⟨by show 2 ≤ sizeLine; decide, fun t nt => ⟨by show 2 ≤ sizeLine; decide, fun u nu => ?_⟩⟩⟩
    have sb : Same H' (upd H' b (.tup [])) := new_same nb
    have st : Same (upd H' b (.tup [])) (upd (upd H' b (.tup [])) t (.tup [.ref b, .str "num"])) := new_same nt
    have hS : SortAt (upd (upd H' b (.tup [])) t (.tup [.ref b, .str "num"])) (.ref t) [] "num" := ⟨t, b, rfl, upd_same, st _ _ upd_same⟩
    have s2 := sb.trans st
    generalize upd (upd H' b (.tup [])) t (.tup [.ref b, .str "num"]) = H2 at hS s2 nu ⊢
    have su : Same H2 (upd H2 u (.tup [.str y, .ref t])) := new_same nu
    have eu : (upd H2 u (.tup [.str y, .ref t])) u = some (.tup [.str y, .ref t]) := upd_same
    have s3 := s2.trans su
    generalize upd H2 u (.tup [.str y, .ref t]) = H3 at su eu s3 ⊢
    have eD3 := s3 _ _ eD
    have p3 := (p5.same s3)
    have hS3 := hS.same su
    have lt5 : i < 5 := (List.getElem?_eq_some_iff.mp hy).1
    refine ⟨_, eD3, ?_, fun b o e => ?_, ts ++ [u], kvs ++ [(.inr y, .ref t)], ?_, ?_, ?_, ?_, ?_⟩
    · rw [List.length_map, p3.1]
      exact small1000 (by omega)
    · rw [upd_ne (ne_of_none e nD1)]
      exact s3 _ _ (s b o e)
    · rw [upd_same, List.map_append]
      rfl
    · rw [List.length_append, p3.1]
      rfl
    · rw [List.map_append, p3.2.1, List.take_add_one, hy, List.map_append]
      rfl
    · refine Paired.snoc (p3.off eD3).2.2.1 ?_
      exact (upd_ne (ne_of eu eD3 (by intro z; cases z))).trans eu
    · intro v hv
      rw [List.map_append] at hv
      rcases List.mem_append.mp hv with h | h
      · exact (p3.off eD3).2.2.2 v h
      · simp at h
        rw [h]
        exact hS3.off eD3 (by intro xs z; cases z)
  · rintro H2 ⟨s, ts, kvs, eD, l5, hf, hp, hs⟩
    have l5' : ts.length = 5 := l5
    have lk : kvs.length = 5 := (paired_len hp).symm.trans l5'
    refine ⟨D1, ts, kvs, rfl, SqL.of eD, paired_mono (fun _ _ e => SqT.of e) hp, fun p np => ?_⟩
    obtain ⟨k1, k2, k3, k4, k5, rfl⟩ : ∃ k1 k2 k3 k4 k5, kvs = [k1, k2, k3, k4, k5] := by
      match kvs, lk with
      | [k1, k2, k3, k4, k5], _ => exact ⟨k1, k2, k3, k4, k5, rfl⟩
    obtain ⟨a1, v1⟩ := k1
    obtain ⟨a2, v2⟩ := k2
    obtain ⟨a3, v3⟩ := k3
    obtain ⟨a4, v4⟩ := k4
    obtain ⟨a5, v5⟩ := k5
    have hf' : [a1, a2, a3, a4, a5] = [(.inr "a" : Key), .inr "b", .inr "c", .inr "d", .inr "e"] := hf
    injection hf' with z1 hf'
    injection hf' with z2 hf'
    injection hf' with z3 hf'
    injection hf' with z4 hf'
    injection hf' with z5 hf'
    subst z1 z2 z3 z4 z5
    rw [merge5]
    have s12 := s1.trans s
    have sp : Same H2 (upd H2 p (.dK [((.inr "a" : Key), v1), (.inr "b", v2), (.inr "c", v3), (.inr "d", v4), (.inr "e", v5)])) := new_same np
    have ep : (upd H2 p (.dK [((.inr "a" : Key), v1), (.inr "b", v2), (.inr "c", v3), (.inr "d", v4), (.inr "e", v5)])) p = some (.dK [((.inr "a" : Key), v1), (.inr "b", v2), (.inr "c", v3), (.inr "d", v4), (.inr "e", v5)]) := upd_same
    have hs3 : ∀ v ∈ [v1, v2, v3, v4, v5], SortAt (upd H2 p (.dK [((.inr "a" : Key), v1), (.inr "b", v2), (.inr "c", v3), (.inr "d", v4), (.inr "e", v5)])) v [] "num" := fun v hv => (hs v hv).same sp
    have sA := s12.trans sp
    have po : p ≠ o := (ne_of_none (s12 _ _ eo) np).symm
    generalize upd H2 p (.dK [((.inr "a" : Key), v1), (.inr "b", v2), (.inr "c", v3), (.inr "d", v4), (.inr "e", v5)]) = H3 at ep hs3 sA ⊢
    have eo3 := sA _ _ eo
    refine ⟨o, xs, .ref p, rfl, rfl, eo3, small1000 (by omega), ?_⟩
    have dv : ∀ v ∈ [v1, v2, v3, v4, v5], Dp K (upd H3 o (.lst (xs ++ [.ref p]))) v numS := fun v hv => ((hs3 v hv).off eo3 (by intro xs z; cases z)).dp
    refine k _ _ upd_same (by rw [List.length_append, lx]; rfl) (fun x hx2 => ?_) ((g0.same sA).off eo3 rfl od ol oc)
    rcases List.mem_append.mp hx2 with h | h
    · refine (hx x h).kp (.of fun b u e => ?_)
      rw [upd_ne (ne_of_none e nb0)]
      exact sA _ _ (sB _ _ e)
    · rw [List.mem_singleton] at h
      rw [h]
      refine ⟨some [(.inr "a", numS), (.inr "b", numS), (.inr "c", numS), (.inr "d", numS), (.inr "e", numS)], .dct ((upd_ne po).trans ep) rfl (.cons (dv _ (by simp)) (.cons (dv _ (by simp)) (.cons (dv _ (by simp)) (.cons (dv _ (by simp)) (.cons (dv _ (by simp)) .nil))))) fun r hr x hx => ?_, by decide +kernel⟩
      simp only [List.mem_cons, List.not_mem_nil, or_false] at hr
      rcases hr with rfl | rfl | rfl | rfl | rfl
      all_goals (cases hx; decide +kernel)
end
end Jd
/-! law of k01: lambdas in a list; what their calls raise. -/
namespace Jd
open PySem PySem.Spec PyProof.Rows L2 RZ LamX Lm Dk
/-- the lambdas of a loop over a list of them -/
def lamsOf : Stmt → List Expr
  | .For _ _ [.For _ (.List es _) _ _ _] _ _ => es
  | _ => []
def lamPar : Expr → Arguments
  | .Lambda p _ _ _ => p
  | _ => ⟨[], [], none, [], [], none, []⟩
def lamBody : Expr → Expr
  | .Lambda _ b _ _ => b
  | e => e
def lamSc : Expr → Scope
  | .Lambda _ _ s _ => s
  | _ => ⟨.function, [], false, false, []⟩
abbrev la (i j : Nat) : Expr := (lamsOf (lb i)).getD j (.Constant .none 0 ⟨0, 0, 0, 0⟩)
abbrev txt (i j : Nat) (r : XK → TE) : Text := (lamPar (la i j), lamBody (la i j), lamSc (la i j), r)
abbrev qL : Str := ("law" : Str) ++ ".<locals>." ++ "<lambda>"
section
variable {X : Cx} {H H1 : Hp} {T : List (Addr × Str)}
abbrev LmT (X : Cx) (f c' : Addr) (e : Text) : HO := LmO f (X.env.qual ++ "<lambda>") e.1 e.2.1 e.2.2.1 (cloFrom X.env.cells e.2.2.1.names []) c'
/-- these lambdas stand at these places -/
def LamsAt (X : Cx) (H : Hp) (B : List Text) (fs : List Addr) : Prop := fs.length = B.length ∧ fs.Nodup ∧ ∀ (i : Nat) (f : Addr) (e : Text), fs[i]? = some f → B[i]? = some e → ∃ c', H f = some (LmT X f c' e) ∧ H c' = some (CodeO c' (X.env.qual ++ "<lambda>"))
theorem LamsAt.nil : LamsAt X H [] [] := ⟨rfl, List.nodup_nil, fun i f e h => by simp at h⟩
theorem lm_tbl {f c' : Addr} {e : Text} : ∀ ps, LmT X f c' e ≠ .tbl ps := fun ps z => by
  unfold LmT LmO at z
  cases z
theorem LamsAt.snoc {B : List Text} {fs : List Addr} {f c' : Addr} {e : Text} (L : LamsAt X H B fs) (eN : ExtN H H1) (n1 : H1 f = none) (hc : H1 c' = some (CodeO c' (X.env.qual ++ "<lambda>"))) : LamsAt X (upd H1 f (LmT X f c' e)) (B ++ [e]) (fs ++ [f]) := by
  obtain ⟨hl, hn, h⟩ := L
  have old : ∀ (i : Nat) (g : Addr) (e' : Text), fs[i]? = some g → B[i]? = some e' → g ≠ f ∧ ∃ c0, upd H1 f (LmT X f c' e) g = some (LmT X g c0 e') ∧ upd H1 f (LmT X f c' e) c0 = some (CodeO c0 (X.env.qual ++ "<lambda>")) := fun i g e' a b => by
    obtain ⟨c0, z1, z2⟩ := h i g e' a b
    have y1 := eN _ _ z1 lm_tbl
    have y2 := eN _ _ z2 codeO_ne
    have g1 := ne_of_none y1 n1
    exact ⟨g1, c0, (upd_ne g1).trans y1, (upd_ne (ne_of_none y2 n1)).trans y2⟩
  refine ⟨by simp [hl], ?_, fun i g e' a b => ?_⟩
  · rw [List.nodup_append]
    refine ⟨hn, by simp, fun a ha b hb => ?_⟩
    rw [List.mem_singleton] at hb
    rw [hb]
    obtain ⟨i, hi, ea⟩ := List.getElem_of_mem ha
    have hB : i < B.length := by omega
    exact (old i a (B[i]'hB) (by rw [List.getElem?_eq_getElem hi, ea]) (List.getElem?_eq_getElem hB)).1
  · by_cases hi : i < fs.length
    · rw [List.getElem?_append_left hi] at a
      rw [List.getElem?_append_left (by omega)] at b
      exact (old i g e' a b).2
    · have ei : i = fs.length := by
        have := (List.getElem?_eq_some_iff.mp a).1
        simp at this
        omega
      subst ei
      rw [List.getElem?_append_right (Nat.le_refl _)] at a
      rw [List.getElem?_append_right (by omega), hl] at b
      simp at a b
      subst a b
      exact ⟨c', upd_same, (upd_ne (ne_of_none hc n1)).trans hc⟩
theorem LamsAt.same {H' : Hp} {B : List Text} {fs : List Addr} (L : LamsAt X H B fs) (s : Same H H') : LamsAt X H' B fs := by
  obtain ⟨hl, hn, h⟩ := L
  refine ⟨hl, hn, fun i f e a b => ?_⟩
  obtain ⟨c0, z1, z2⟩ := h i f e a b
  exact ⟨c0, s _ _ z1, s _ _ z2⟩
theorem lam_code {f c' c0 : Addr} {e : Text} {q : Str} (h1 : H f = some (LmT X f c' e)) (h2 : H c0 = some (CodeO c0 q)) : c0 ≠ f := fun z => by
  subst z
  rw [h1] at h2
  have e2 := Option.some.inj h2
  rcases lmO_ne (f := c0) (c0 := c0) (q := X.env.qual ++ "<lambda>") (q2 := q) (params := e.1) (body := e.2.1) (scope := e.2.2.1) (cl := cloFrom X.env.cells e.2.2.1.names []) (c' := c') with n | n
  · exact n e2
  · exact n rfl
theorem tabs_del {f c' : Addr} {e : Text} (t : Tabs T H) (h1 : H f = some (LmT X f c' e)) : Tabs T (delH H f) := fun p hp => by
  obtain ⟨ps, a1, a2, a3⟩ := t p hp
  have pf : p.1 ≠ f := fun z => by
    rw [z, h1] at a1
    exact lm_tbl ps (Option.some.inj a1)
  refine ⟨ps, (delH_ne pf).trans a1, a2, fun pos cv hc => ?_⟩
  obtain ⟨c0, y1, y2⟩ := a3 pos cv hc
  exact ⟨c0, y1, (delH_ne (lam_code h1 y2)).trans y2⟩
/-- the lambdas from the i-th on -/
def LamsFrom (X : Cx) (H : Hp) (B : List Text) (fs : List Addr) (i : Nat) : Prop := ∀ (j : Nat) (f : Addr) (e : Text), i ≤ j → fs[j]? = some f → B[j]? = some e → ∃ c', H f = some (LmT X f c' e) ∧ H c' = some (CodeO c' (X.env.qual ++ "<lambda>"))
theorem LamsFrom.next {B : List Text} {fs : List Addr} {i : Nat} {f c' : Addr} {e : Text} {H' : Hp} (L : LamsFrom X H B fs i) (hn : fs.Nodup) (hf : fs[i]? = some f) (h1 : H f = some (LmT X f c' e)) (s : Same (delH H f) H') : LamsFrom X H' B fs (i + 1) := fun j g e' hj a b => by
  obtain ⟨c0, z1, z2⟩ := L j g e' (by omega) a b
  have gf : g ≠ f := fun z => by
    subst z
    obtain ⟨hi, ei⟩ := List.getElem?_eq_some_iff.mp hf
    obtain ⟨hj2, ej⟩ := List.getElem?_eq_some_iff.mp a
    have := (List.getElem_inj (h₀ := hi) (h₁ := hj2) hn).mp (ei.trans ej.symm)
    omega
  exact ⟨c0, s _ _ ((delH_ne gf).trans z1), s _ _ ((delH_ne (lam_code h1 z2)).trans z2)⟩
end
end Jd
/-! law of k01: wrong names, each asked three ways. -/
namespace Jd
open PySem PySem.Spec PyProof.Rows L2 RZ LamX Lm Dk
/-- the caught errors, and law's own code object -/
structure LawErr (P : Program) (w : World) (K : PySem.W.Frag) (mg : Str → Option Value) (base : Heap) (cN cS cPE cL pT : Addr) : Prop where
  caught : ∃ f fd, Fun K "_law_caught" "_law_caught" sCaught f fd ∧ mg "_law_caught" = some (.ref f)
  mP : mg "PlayError" = some (.ref cPE)
  mN : mg "BadNumber" = some (.ref cN)
  mS : mg "BadSort" = some (.ref cS)
  xN : PySem.W.exmOne K (.ref cN) (.ref cPE) = some true
  xS : PySem.W.exmOne K (.ref cS) (.ref cPE) = some true
  eN : ExcC K cN
  eS : ExcC K cS
  kN : PySem.W.kitOne K (.ref cN) (.ref cN) = some true
  kS : PySem.W.kitOne K (.ref cS) (.ref cS) = some true
  fN : PySem.W.findIn K (.ref cN) "part" = some none
  tb : TabB base mg cL pT
section
variable {P : Program} {w : World} {K : PySem.W.Frag} {mg : Str → Option Value} {base : Heap} {cN cS cPE cL pT f : Addr} {A : Around} {outer : List Env} {s0 : Shared} {H0 : Hp} {E : XK}
abbrev LY (P : Program) (w : World) (K : PySem.W.Frag) (mg : Str → Option Value) (base : Heap) (f cL : Addr) (A : Around) (outer : List Env) (s0 : Shared) (H0 : Hp) (E : XK) : Cx := LX P w K mg base f (.ref cL) A outer s0 H0 E
abbrev TT1 (pT : Addr) : List (Addr × Str) := [(pT, qL)]
/-- what the three lambdas do -/
abbrev r12 (K : PySem.W.Frag) (cN cS : Addr) : XK → TE := fun E => tCall (spIsTerm K cN cS) [] E (tCons (tC (.int 2)) (tCons (tVar 6) (tCons (tC .non) tNil)))
abbrev r12b (K : PySem.W.Frag) (cN cS : Addr) : XK → TE := fun E => tCall (spSortOf K cN cS) [] E (tCons (tC (.int 2)) (tCons (tVar 6) (tCons (tC .non) tNil)))
abbrev r12c (K : PySem.W.Frag) (cN cS C : Addr) : XK → TE := fun E => tMake C (spPieceInit K cN cS) [] E (tCons (tC (.int 2)) (tCons (tVar 6) (tCons (tC .non) tNil)))
abbrev B12 (K : PySem.W.Frag) (cN cS C : Addr) : List Text := [txt 12 0 (r12 K cN cS), txt 12 1 (r12b K cN cS), txt 12 2 (r12c K cN cS C)]
theorem passL {X : Cx} {A : Around} {outer : List Env} {s : Shared} {H : Hp} {E : XK} {sc : Scope} {f c' : Addr} : Passes (L2.CX X.prog X.w) (lamCx X A outer s H E sc f c') E := passes_call (X := lamCx X A outer s H E sc f c') (takes_of rfl rfl rfl rfl) (fun _ _ _ _ h => h)
theorem ok12 (G : LawTop P w K mg base cN cS) {C fP : Addr} {dP : FuncData} (mC : mg "Piece" = some (.ref C)) (M : Mk K C fP) (FP : FnOk P w K mg base (L2.CX P w) 5 fP dP ["self", "size", "names", "term"] (spPieceInit K cN cS)) (bP : Binds K dP ["self", "size", "names", "term"] []) :
    ∀ e ∈ B12 K cN cS C, TextOk (LY P w K mg base f cL A outer s0 H0 E) 7 e := by
  obtain ⟨fT, dT, gT⟩ := G.isTerm
  obtain ⟨fS, dS, gS⟩ := G.sortOf
  intro e he
  simp only [B12, List.mem_cons, List.not_mem_nil, or_false] at he
  rcases he with rfl | rfl | rfl
  · exact ⟨lamS_by (show lamSB (defScope sLaw) (lamSc (la 12 0)) = true by decide +kernel), fun _ _ _ _ _ => rfl, fun A' outer' s H E' fl c' hr => gT.pe (X := lamCx (LY P w K mg base f cL A outer s0 H0 E) A' outer' s H E' (lamSc (la 12 0)) fl c') hr passL (pa_cons pe_int (pa_cons (pv 6) (pa_cons pe_non pa_nil))) rfl⟩
  · exact ⟨lamS_by (show lamSB (defScope sLaw) (lamSc (la 12 1)) = true by decide +kernel), fun _ _ _ _ _ => rfl, fun A' outer' s H E' fl c' hr => gS.pe (X := lamCx (LY P w K mg base f cL A outer s0 H0 E) A' outer' s H E' (lamSc (la 12 1)) fl c') (hr.mono (show 5 ≤ 7 by decide)) passL (pa_cons pe_int (pa_cons (pv 6) (pa_cons pe_non pa_nil))) rfl⟩
  · exact ⟨lamS_by (show lamSB (defScope sLaw) (lamSc (la 12 2)) = true by decide +kernel), fun _ _ _ _ _ => rfl, fun A' outer' s H E' fl c' hr => pe_make (X := lamCx (LY P w K mg base f cL A outer s0 H0 E) A' outer' s H E' (lamSc (la 12 2)) fl c') M FP (hr.mono (show 6 ≤ 7 by decide)) (by rfl) mC bP .nil passL (pa_cons pe_int (pa_cons (pv 6) (pa_cons pe_non pa_nil)))⟩
/-- each of them raises BadSort at what is no names -/
theorem raises12 {C : Addr} {e : Text} (he : e ∈ B12 K cN cS C) {σ : L2.St} {H : Hp} {E : XK} {Q : VK} {x : V} (h6 : σ[6]? = some (some x)) (hb : BadNm K H x) (k : ∀ H', Same H H' → E (.ref cS) none H') : e.2.2.2 E σ H Q := by
  obtain ⟨o, hn, ho⟩ := hb
  simp only [B12, List.mem_cons, List.not_mem_nil, or_false] at he
  rcases he with rfl | rfl | rfl
  · exact ⟨x, h6, _, _, _, rfl, .inl (.inr ⟨_, o, .int 2, by decide +kernel, hn, ho, k⟩)⟩
  · exact ⟨x, h6, _, _, _, rfl, .inr ⟨_, o, .int 2, by decide +kernel, hn, ho, k⟩⟩
  · refine ⟨x, h6, fun p dx np ndx ne => ?_⟩
    have s1 : Same H (upd H dx (.own p)) := new_same ndx
    have s2 : Same (upd H dx (.own p)) (upd (upd H dx (.own p)) p (.ins C dx [])) := new_same (by rw [upd_ne (Ne.symm ne)]; exact np)
    exact ⟨_, _, _, _, rfl, .inr ⟨_, o, .int 2, by decide +kernel, (Kp.of (s1.trans s2)).nm hn, ho, fun H' s => k H' ((s1.trans s2).trans s)⟩⟩
end
end Jd
/-! law of k01: the loop over wrong names. -/
namespace Jd
open PySem PySem.Spec PyProof.Rows L2 RZ LamX Lm Dk
section
variable {P : Program} {w : World} {K : PySem.W.Frag} {mg : Str → Option Value} {base : Heap} {cN cS cPE cL pT f : Addr} {A : Around} {outer : List Env} {s0 : Shared} {H0 : Hp} {E : XK}
/-- _law_caught(work) -/
theorem pe_work (L : LawErr P w K mg base cN cS cPE cL pT) (hr : RoomL f (.ref cL) A s0) {B : List Text} (hB : ∀ e ∈ B, TextOk (LY P w K mg base f cL A outer s0 H0 E) 7 e) {p p2 pos : Pos} :
    PE (LY P w K mg base f cL A outer s0 H0 E) (.Call (.Name "_law_caught" p) [.Name "work" p2] [] pos) (tLamVar (LY P w K mg base f cL A outer s0 H0 E) 9 B (TCaught K cPE)) := by
  obtain ⟨fC, dC, FC, mC⟩ := L.caught
  have bC : Binds K dC ["work"] [] := FC.binds fun _ _ _ _ _ _ us hl => match us, hl with | [_], _ => rfl
  obtain ⟨oc, od, kV, doc, pm, an, cdv, ct, osl, rfl, lk, hcd⟩ := FC.ex
  exact pe_lamvar (X := LY P w K mg base f cL A outer s0 H0 E) (k := 7) (j := 9) (B := B) rfl mC FC.kp lk hcd bC scCaught rfl (Or.inl rfl) (caught_gives rfl L.mP rfl rfl) (pv 9) hr hB
/-- for bad in odd: for work in [..]: if not isinstance(_law_caught(work), BadSort): return False -/
theorem st12 (G : LawTop P w K mg base cN cS) (L : LawErr P w K mg base cN cS cPE cL pT) (hr : RoomL f (.ref cL) A s0) : PS (LY P w K mg base f cL A outer s0 H0 E) (lb 12) (fun D σ H => ∃ (q : Fr) (l c o : Addr) (ys : List V), σ = q.st ∧ q.v7 = some (.ref o) ∧ H o = some (.lst ys) ∧ (∀ x ∈ ys, BadNm K H x) ∧ Good (TT1 pT) H q.d l c ∧
    ∀ v6 v9 H', Good (TT1 pT) H' q.d l c → D.nx { q with v6 := v6, v9 := v9 }.st H') := by
  obtain ⟨C, fP, dP, mC, M, FP, bP⟩ := G.piece
  have hm : ∀ p ∈ TT1 pT, p.1 = pT → p.2 = (LY P w K mg base f cL A outer s0 H0 E).env.qual ++ "<lambda>" := fun p hp _ => by
    rw [List.mem_singleton] at hp
    rw [hp]
    rfl
  have lam : ∀ (j : Nat) (pos : Pos), LamS (defScope sLaw) (lamSc (la 12 j)) → defaultsOf (lamPar (la 12 j)) (LY P w K mg base f cL A outer s0 H0 E).env = ([], []) →
      PE (LY P w K mg base f cL A outer s0 H0 E) (.Lambda (lamPar (la 12 j)) (lamBody (la 12 j)) (lamSc (la 12 j)) pos) (tLamE (LY P w K mg base f cL A outer s0 H0 E) (TT1 pT) (lamPar (la 12 j)) (lamBody (la 12 j)) (lamSc (la 12 j))) := fun j pos hs hd =>
    pe_lamE (X := LY P w K mg base f cL A outer s0 H0 E) (T := TT1 pT) (c := cL) (P := pT) L.tb rfl (by simp [TT1]; rfl) hm hd hs
  refine PS.imp (ps_for (X := LY P w K mg base f cL A outer s0 H0 E) PassesOwn.never rfl (pi_list (pv 7)) (pg_name (i := 6) ndL rfl (Or.inr rfl))
    (pss_one (ps_for (X := LY P w K mg base f cL A outer s0 H0 E) PassesOwn.never rfl
      (pi_list (pe_lst (pa_cons (lam 0 _ (lamS_by (by decide +kernel)) rfl) (pa_cons (lam 1 _ (lamS_by (by decide +kernel)) rfl) (pa_cons (lam 2 _ (lamS_by (by decide +kernel)) rfl) pa_nil))))) (pg_name (i := 9) ndL rfl (Or.inl rfl))
      (pss_one (ps_if (pt_not (pt_val (pe_callB call_isG (by rfl) G.isi (by decide +kernel) (pa_cons (pe_work L hr (ok12 G mC M FP bP)) (pa_cons (pe_glob (v := V.ref cS) (by rfl) L.mS rfl) pa_nil))))) (pss_one (ps_ret pe_bl)) pss_nil))))) fun D σ H h => ?_
  obtain ⟨q, l, c, o, ys, rfl, e7, eo, hy, g0, k⟩ := h
  refine ⟨.ref o, by rw [← e7]; rfl, o, rfl, ⟨_, SqL.of eo⟩, for_list (K := K) (a := o) (xs := ys) (fun i σ H' => Kp H H' ∧ Tabs (TT1 pT) H' ∧ ∃ v6 v9, σ = { q with v6 := v6, v9 := v9 }.st) ⟨Kp.refl _, g0.T, q.v6, q.v9, rfl⟩ (fun i σ H' _ ⟨s, _⟩ => SqL.of (s _ _ eo rfl)) ?_ ?_⟩
  · rintro i x σ H1 hx ⟨s1, t1, v6, v9, rfl⟩
    have bx := (hy x (List.mem_of_getElem? hx)).kp s1
    refine ⟨t1, fun f1 c1 H2 e2 t2 n2 k2 => ⟨t2.ext (new_same n2), fun f2 c2 H3 e3 t3 n3 k3 => ⟨t3.ext (new_same n3), fun f3 c3 H4 e4 t4 n4 k4 => ⟨by show 3 ≤ sizeLine; decide, fun u nu => ?_⟩⟩⟩⟩
    have L1 := (LamsAt.nil (X := LY P w K mg base f cL A outer s0 H0 E) (H := H1)).snoc (e := txt 12 0 (r12 K cN cS)) e2 n2 k2
    have L2 := L1.snoc (e := txt 12 1 (r12b K cN cS)) e3 n3 k3
    have L3 := L2.snoc (e := txt 12 2 (r12c K cN cS C)) e4 n4 k4
    have sK := ((((Kp.ext e2).trans (.of (new_same n2))).trans (.ext e3)).trans ((Kp.of (new_same n3)).trans (.ext e4))).trans (.of (new_same (o := LmT (LY P w K mg base f cL A outer s0 H0 E) f3 c3 (txt 12 2 (r12c K cN cS C))) n4))
    have t5 := t4.ext (new_same (o := LmT (LY P w K mg base f cL A outer s0 H0 E) f3 c3 (txt 12 2 (r12c K cN cS C))) n4)
    have L3' : LamsAt (LY P w K mg base f cL A outer s0 H0 E) (upd H4 f3 (LmT (LY P w K mg base f cL A outer s0 H0 E) f3 c3 (txt 12 2 (r12c K cN cS C)))) (B12 K cN cS C) [f1, f2, f3] := L3
    generalize upd H4 f3 (LmT (LY P w K mg base f cL A outer s0 H0 E) f3 c3 (txt 12 2 (r12c K cN cS C))) = H5 at sK t5 L3' nu ⊢
    have su : Same H5 (upd H5 u (.lst ([f1, f2, f3].map V.ref))) := new_same nu
    have eu : (upd H5 u (.lst ([f1, f2, f3].map V.ref))) u = some (.lst ([f1, f2, f3].map V.ref)) := upd_same
    have LA := L3'.same su
    have nd3 := LA.2.1
    refine ⟨u, rfl, ⟨_, SqL.of eu⟩, for_list (K := K) (a := u) (xs := [f1, f2, f3].map V.ref) (fun j σ H' => Kp (upd H5 u (.lst ([f1, f2, f3].map V.ref))) H' ∧ Tabs (TT1 pT) H' ∧ LamsFrom (LY P w K mg base f cL A outer s0 H0 E) H' (B12 K cN cS C) [f1, f2, f3] j ∧ ∃ v9, σ = { q with v6 := some x, v9 := v9 }.st)
      ⟨Kp.refl _, t5.ext su, fun j g e _ a b => LA.2.2 j g e a b, v9, rfl⟩ (fun j σ H' _ ⟨s, _⟩ => SqL.of (s _ _ eu rfl)) ?_ ?_⟩
    · rintro j y σ H6 hj ⟨s6, t6, lf, w9, rfl⟩
      obtain ⟨g, hg, rfl⟩ : ∃ g, [f1, f2, f3][j]? = some g ∧ y = .ref g := by
        rw [List.getElem?_map] at hj
        cases e : [f1, f2, f3][j]? with
        | none => rw [e] at hj; cases hj
        | some g => rw [e] at hj; exact ⟨g, rfl, (Option.some.inj hj).symm⟩
      have hB : j < (B12 K cN cS C).length := by
        have := (List.getElem?_eq_some_iff.mp hg).1
        exact this
      obtain ⟨c', z1, z2⟩ := lf j g _ (Nat.le_refl _) hg (List.getElem?_eq_getElem hB)
      have he := List.getElem_mem hB
      generalize (B12 K cN cS C)[j] = e at z1 he
      refine ⟨g, c', e, rfl, he, z1, z2, raises12 he rfl (bx.kp (((sK.trans (.of su)).trans s6).trans (.del z1))) fun H7 s7 => ⟨L.xS, fun a na => ?_⟩⟩
      refine ⟨a, cS, .ref cS, .ref cS, true, rfl, .inl upd_same, L.eS, fun u r => r, L.kS, true, rfl, iteF ?_⟩
      have s8 : Same (delH H6 g) (upd H7 a (ErrO (.ref cS) none a)) := s7.trans (new_same na)
      exact ⟨s6.trans ((Kp.del z1).trans (.of s8)), (tabs_del t6 z1).ext s8, lf.next nd3 hg z1 s8, some (.ref g), rfl⟩
    · rintro σ H6 ⟨s6, t6, _, w9, rfl⟩
      exact ⟨((s1.trans sK).trans (.of su)).trans s6, t6, some x, w9, rfl⟩
  · rintro σ H1 ⟨s1, t1, v6, v9, rfl⟩
    exact k v6 v9 H1 ⟨s1.draw g0.D, t1⟩
end
end Jd
/-! law of k01: wrong sizes, each asked four ways. -/
namespace Jd
open PySem PySem.Spec PyProof.Rows L2 RZ LamX Lm Dk
section
variable {P : Program} {w : World} {K : PySem.W.Frag} {mg : Str → Option Value} {base : Heap} {cN cS cPE cL pT f : Addr} {A : Around} {outer : List Env} {s0 : Shared} {H0 : Hp} {E : XK}
abbrev r13 (K : PySem.W.Frag) (cN cS : Addr) : XK → TE := fun E => tCall (spIsTerm K cN cS) [] E (tCons (tVar 6) (tCons (tC .non) (tCons (tC .non) tNil)))
abbrev r13b (K : PySem.W.Frag) (cN cS : Addr) : XK → TE := fun E => tCall (spSortOf K cN cS) [] E (tCons (tVar 6) (tCons (tC .non) (tCons (tC .non) tNil)))
abbrev r13c (K : PySem.W.Frag) (cN cS C : Addr) : XK → TE := fun E => tMake C (spPieceInit K cN cS) [] E (tCons (tVar 6) (tCons (tC .non) (tCons (tC .non) tNil)))
abbrev r13d (K : PySem.W.Frag) (cN cS C : Addr) : XK → TE := fun E => tMake C (spFuncInit K cN cS) [] E (tCons (tVar 6) (tCons (tC .non) (tCons (tC .non) (tCons (tC .non) tNil))))
abbrev B13 (K : PySem.W.Frag) (cN cS C C2 : Addr) : List Text := [txt 13 0 (r13 K cN cS), txt 13 1 (r13b K cN cS), txt 13 2 (r13c K cN cS C), txt 13 3 (r13d K cN cS C2)]
theorem ok13 (G : LawTop P w K mg base cN cS) {C fP C2 fF : Addr} {dP dF : FuncData} (mC : mg "Piece" = some (.ref C)) (M : Mk K C fP) (FP : FnOk P w K mg base (L2.CX P w) 5 fP dP ["self", "size", "names", "term"] (spPieceInit K cN cS)) (bP : Binds K dP ["self", "size", "names", "term"] [])
    (mF : mg "Function" = some (.ref C2)) (MF : Mk K C2 fF) (FF : FnOk P w K mg base (L2.CX P w) 5 fF dF ["self", "size", "names", "params", "term"] (spFuncInit K cN cS)) (bF : Binds K dF ["self", "size", "names", "params", "term"] []) :
    ∀ e ∈ B13 K cN cS C C2, TextOk (LY P w K mg base f cL A outer s0 H0 E) 7 e := by
  obtain ⟨fT, dT, gT⟩ := G.isTerm
  obtain ⟨fS, dS, gS⟩ := G.sortOf
  intro e he
  simp only [B13, List.mem_cons, List.not_mem_nil, or_false] at he
  rcases he with rfl | rfl | rfl | rfl
  · exact ⟨lamS_by (show lamSB (defScope sLaw) (lamSc (la 13 0)) = true by decide +kernel), fun _ _ _ _ _ => rfl, fun A' outer' s H E' fl c' hr => gT.pe (X := lamCx (LY P w K mg base f cL A outer s0 H0 E) A' outer' s H E' (lamSc (la 13 0)) fl c') hr passL (pa_cons (pv 6) (pa_cons pe_non (pa_cons pe_non pa_nil))) rfl⟩
  · exact ⟨lamS_by (show lamSB (defScope sLaw) (lamSc (la 13 1)) = true by decide +kernel), fun _ _ _ _ _ => rfl, fun A' outer' s H E' fl c' hr => gS.pe (X := lamCx (LY P w K mg base f cL A outer s0 H0 E) A' outer' s H E' (lamSc (la 13 1)) fl c') (hr.mono (show 5 ≤ 7 by decide)) passL (pa_cons (pv 6) (pa_cons pe_non (pa_cons pe_non pa_nil))) rfl⟩
  · exact ⟨lamS_by (show lamSB (defScope sLaw) (lamSc (la 13 2)) = true by decide +kernel), fun _ _ _ _ _ => rfl, fun A' outer' s H E' fl c' hr => pe_make (X := lamCx (LY P w K mg base f cL A outer s0 H0 E) A' outer' s H E' (lamSc (la 13 2)) fl c') M FP (hr.mono (show 6 ≤ 7 by decide)) (by rfl) mC bP .nil passL (pa_cons (pv 6) (pa_cons pe_non (pa_cons pe_non pa_nil)))⟩
  · exact ⟨lamS_by (show lamSB (defScope sLaw) (lamSc (la 13 3)) = true by decide +kernel), fun _ _ _ _ _ => rfl, fun A' outer' s H E' fl c' hr => pe_make (X := lamCx (LY P w K mg base f cL A outer s0 H0 E) A' outer' s H E' (lamSc (la 13 3)) fl c') MF FF (hr.mono (show 6 ≤ 7 by decide)) (by rfl) mF bF .nil passL (pa_cons (pv 6) (pa_cons pe_non (pa_cons pe_non (pa_cons pe_non pa_nil))))⟩
abbrev partS : HO := .xd [(("part" : Str), .str "size")]
/-- each of them raises BadNumber("size") at what is no size -/
theorem raises13 {C C2 : Addr} {e : Text} (he : e ∈ B13 K cN cS C C2) {σ : L2.St} {H : Hp} {E : XK} {Q : VK} {x : V} {d : PyData} (h6 : σ[6]? = some (some x)) (hd : Dp K H x d) (hw : withinD 2 4 d = false) (k : ∀ H' y, Same H H' → H' y = none → E (.ref cN) (some y) (upd H' y partS)) : e.2.2.2 E σ H Q := by
  simp only [B13, List.mem_cons, List.not_mem_nil, or_false] at he
  rcases he with rfl | rfl | rfl | rfl
  · exact ⟨x, h6, _, _, _, rfl, .inl (.inl ⟨d, hd, hw, fun y hy => k H y (Same.refl _) hy⟩)⟩
  · exact ⟨x, h6, _, _, _, rfl, .inl ⟨d, hd, hw, fun y hy => k H y (Same.refl _) hy⟩⟩
  · refine ⟨x, h6, fun p dx np ndx ne => ?_⟩
    have s1 : Same H (upd H dx (.own p)) := new_same ndx
    have s2 : Same (upd H dx (.own p)) (upd (upd H dx (.own p)) p (.ins C dx [])) := new_same (by rw [upd_ne (Ne.symm ne)]; exact np)
    exact ⟨_, _, _, _, rfl, .inl ⟨d, (Kp.of (s1.trans s2)).dp hd, hw, fun y hy => k _ y (s1.trans s2) hy⟩⟩
  · refine ⟨x, h6, fun p dx np ndx ne => ?_⟩
    have s1 : Same H (upd H dx (.own p)) := new_same ndx
    have s2 : Same (upd H dx (.own p)) (upd (upd H dx (.own p)) p (.ins C2 dx [])) := new_same (by rw [upd_ne (Ne.symm ne)]; exact np)
    exact ⟨_, _, _, _, _, rfl, .inl ⟨d, (Kp.of (s1.trans s2)).dp hd, hw, fun y hy => k _ y (s1.trans s2) hy⟩⟩
def badSz : List PyData := [.none, .int 1, .int 5, .bool true, .str "3", .tuple [.int 2]]
theorem st13 (G : LawTop P w K mg base cN cS) (L : LawErr P w K mg base cN cS cPE cL pT) (hr : RoomL f (.ref cL) A s0) : PS (LY P w K mg base f cL A outer s0 H0 E) (lb 13) (fun D σ H => ∃ (q : Fr) (l c : Addr), σ = q.st ∧ Good (TT1 pT) H q.d l c ∧
    ∀ v6 v9 v10 H', Good (TT1 pT) H' q.d l c → D.nx { q with v6 := v6, v9 := v9, v10 := v10 }.st H') := by
  obtain ⟨C, fP, dP, mC, M, FP, bP⟩ := G.piece
  obtain ⟨C2, fF, dF, mF, MF, FF, bF⟩ := G.func
  have hm : ∀ p ∈ TT1 pT, p.1 = pT → p.2 = (LY P w K mg base f cL A outer s0 H0 E).env.qual ++ "<lambda>" := fun p hp _ => by
    rw [List.mem_singleton] at hp
    rw [hp]
    rfl
  have lam : ∀ (j : Nat) (pos : Pos), LamS (defScope sLaw) (lamSc (la 13 j)) → defaultsOf (lamPar (la 13 j)) (LY P w K mg base f cL A outer s0 H0 E).env = ([], []) →
      PE (LY P w K mg base f cL A outer s0 H0 E) (.Lambda (lamPar (la 13 j)) (lamBody (la 13 j)) (lamSc (la 13 j)) pos) (tLamE (LY P w K mg base f cL A outer s0 H0 E) (TT1 pT) (lamPar (la 13 j)) (lamBody (la 13 j)) (lamSc (la 13 j))) := fun j pos hs hd =>
    pe_lamE (X := LY P w K mg base f cL A outer s0 H0 E) (T := TT1 pT) (c := cL) (P := pT) L.tb rfl (by simp [TT1]; rfl) hm hd hs
  refine PS.imp (ps_for (X := LY P w K mg base f cL A outer s0 H0 E) PassesOwn.never rfl (pi_list (pe_lst (pa_cons pe_non (pa_cons pe_int (pa_cons pe_int (pa_cons pe_bl (pa_cons pe_str (pa_cons (pe_tup (pa_cons pe_int pa_nil)) pa_nil)))))))) (pg_name (i := 6) ndL rfl (Or.inr rfl))
    (pss_one (ps_for (X := LY P w K mg base f cL A outer s0 H0 E) PassesOwn.never rfl
      (pi_list (pe_lst (pa_cons (lam 0 _ (lamS_by (by decide +kernel)) rfl) (pa_cons (lam 1 _ (lamS_by (by decide +kernel)) rfl) (pa_cons (lam 2 _ (lamS_by (by decide +kernel)) rfl) (pa_cons (lam 3 _ (lamS_by (by decide +kernel)) rfl) pa_nil)))))) (pg_name (i := 9) ndL rfl (Or.inl rfl))
      (pss_cons (ps_set (i := 10) ndL rfl (Or.inl rfl) (pe_work L hr (ok13 G mC M FP bP mF MF FF bF)))
      (pss_one (ps_if (PW.pt (pw_or (pt_not (pt_val (pe_callB call_isG (by rfl) G.isi (by decide +kernel) (pa_cons (pv 10) (pa_cons (pe_glob (v := V.ref cN) (by rfl) L.mN rfl) pa_nil)))))
        (pw_or1 (pt_cmpR op_ne (pe_gotFld (pv 10)) pe_str (nomark _))))) (pss_one (ps_ret pe_bl)) pss_nil)))))) fun D σ H h => ?_
  obtain ⟨q, l, c, rfl, g0, k⟩ := h
  refine ⟨by show 1 ≤ sizeLine; decide, fun t nt => ⟨by show 6 ≤ sizeLine; decide, fun o no => ?_⟩⟩
  have st : Same H (upd H t (.tup [.int 2])) := new_same nt
  have so := new_same (o := .lst [.non, .int 1, .int 5, .bl true, .str "3", .ref t]) no
  have hD : DpAll K (upd (upd H t (.tup [.int 2])) o (.lst [.non, .int 1, .int 5, .bl true, .str "3", .ref t])) [.non, .int 1, .int 5, .bl true, .str "3", .ref t] badSz :=
    .cons .non (.cons (.int 1) (.cons (.int 5) (.cons (.bl true) (.cons (.str "3") (.cons (.tup (SqT.of (so _ _ upd_same)) (.cons (.int 2) .nil)) .nil)))))
  have eo : (upd (upd H t (.tup [.int 2])) o (.lst [.non, .int 1, .int 5, .bl true, .str "3", .ref t])) o = some (.lst [.non, .int 1, .int 5, .bl true, .str "3", .ref t]) := upd_same
  have g1 := (g0.same st).same so
  generalize upd (upd H t (.tup [.int 2])) o (.lst [.non, .int 1, .int 5, .bl true, .str "3", .ref t]) = HA at hD eo g1 ⊢
  refine ⟨o, rfl, ⟨_, SqL.of eo⟩, for_list (K := K) (a := o) (xs := [.non, .int 1, .int 5, .bl true, .str "3", .ref t]) (fun i σ H' => Kp HA H' ∧ Tabs (TT1 pT) H' ∧ ∃ v6 v9 v10, σ = { q with v6 := v6, v9 := v9, v10 := v10 }.st) ⟨Kp.refl _, g1.T, q.v6, q.v9, q.v10, rfl⟩ (fun i σ H' _ ⟨s, _⟩ => SqL.of (s _ _ eo rfl)) ?_ ?_⟩
  · rintro i x σ H1 hx ⟨s1, t1, v6, v9, v10, rfl⟩
    obtain ⟨d, hd, dx⟩ := dps_get hD hx
    have bad : withinD 2 4 d = false := by
      have all6 : ∀ d ∈ badSz, withinD 2 4 d = false := by decide +kernel
      exact all6 d (List.mem_of_getElem? hd)
    have dx1 := s1.dp dx
    refine ⟨t1, fun f1 c1 H2 e2 t2 n2 k2 => ⟨t2.ext (new_same n2), fun f2 c2 H3 e3 t3 n3 k3 => ⟨t3.ext (new_same n3), fun f3 c3 H4 e4 t4 n4 k4 => ⟨t4.ext (new_same n4), fun f4 c4 HB e5 t5 n5 k5 => ⟨by show 4 ≤ sizeLine; decide, fun u nu => ?_⟩⟩⟩⟩⟩
    have L1 := (LamsAt.nil (X := LY P w K mg base f cL A outer s0 H0 E) (H := H1)).snoc (e := txt 13 0 (r13 K cN cS)) e2 n2 k2
    have L2 := L1.snoc (e := txt 13 1 (r13b K cN cS)) e3 n3 k3
    have L3 := L2.snoc (e := txt 13 2 (r13c K cN cS C)) e4 n4 k4
    have L4 := L3.snoc (e := txt 13 3 (r13d K cN cS C2)) e5 n5 k5
    have sK := ((((((Kp.ext e2).trans (.of (new_same n2))).trans (.ext e3)).trans ((Kp.of (new_same n3)).trans (.ext e4))).trans (.of (new_same n4))).trans (.ext e5)).trans (.of (new_same (o := LmT (LY P w K mg base f cL A outer s0 H0 E) f4 c4 (txt 13 3 (r13d K cN cS C2))) n5))
    have tE := t5.ext (new_same (o := LmT (LY P w K mg base f cL A outer s0 H0 E) f4 c4 (txt 13 3 (r13d K cN cS C2))) n5)
    have L4' : LamsAt (LY P w K mg base f cL A outer s0 H0 E) (upd HB f4 (LmT (LY P w K mg base f cL A outer s0 H0 E) f4 c4 (txt 13 3 (r13d K cN cS C2)))) (B13 K cN cS C C2) [f1, f2, f3, f4] := L4
    generalize upd HB f4 (LmT (LY P w K mg base f cL A outer s0 H0 E) f4 c4 (txt 13 3 (r13d K cN cS C2))) = H5 at sK tE L4' nu ⊢
    have su : Same H5 (upd H5 u (.lst ([f1, f2, f3, f4].map V.ref))) := new_same nu
    have eu : (upd H5 u (.lst ([f1, f2, f3, f4].map V.ref))) u = some (.lst ([f1, f2, f3, f4].map V.ref)) := upd_same
    have LA := L4'.same su
    have nd4 := LA.2.1
    refine ⟨u, rfl, ⟨_, SqL.of eu⟩, for_list (K := K) (a := u) (xs := [f1, f2, f3, f4].map V.ref) (fun j σ H' => Kp (upd H5 u (.lst ([f1, f2, f3, f4].map V.ref))) H' ∧ Tabs (TT1 pT) H' ∧ LamsFrom (LY P w K mg base f cL A outer s0 H0 E) H' (B13 K cN cS C C2) [f1, f2, f3, f4] j ∧ ∃ v9 v10, σ = { q with v6 := some x, v9 := v9, v10 := v10 }.st)
      ⟨Kp.refl _, tE.ext su, fun j g e _ a b => LA.2.2 j g e a b, v9, v10, rfl⟩ (fun j σ H' _ ⟨s, _⟩ => SqL.of (s _ _ eu rfl)) ?_ ?_⟩
    · rintro j y σ H6 hj ⟨s6, t6, lf, w9, w10, rfl⟩
      obtain ⟨g, hg, rfl⟩ : ∃ g, [f1, f2, f3, f4][j]? = some g ∧ y = .ref g := by
        rw [List.getElem?_map] at hj
        cases e : [f1, f2, f3, f4][j]? with
        | none => rw [e] at hj; cases hj
        | some g => rw [e] at hj; exact ⟨g, rfl, (Option.some.inj hj).symm⟩
      have hB : j < (B13 K cN cS C C2).length := (List.getElem?_eq_some_iff.mp hg).1
      obtain ⟨c', z1, z2⟩ := lf j g _ (Nat.le_refl _) hg (List.getElem?_eq_getElem hB)
      have he := List.getElem_mem hB
      generalize (B13 K cN cS C C2)[j] = e at z1 he
      refine ⟨g, c', e, rfl, he, z1, z2, raises13 he rfl ((((sK.trans (.of su)).trans s6).trans (.del z1)).dp dx1) bad fun H7 y s7 ny => ⟨L.xN, fun a na => ?_⟩⟩
      have sy : Same H7 (upd H7 y partS) := new_same ny
      have sa : Same (upd H7 y partS) (upd (upd H7 y partS) a (ErrO (.ref cN) (some y) a)) := new_same na
      have ea : (upd (upd H7 y partS) a (ErrO (.ref cN) (some y) a)) a = some (ErrO (.ref cN) (some y) a) := upd_same
      have ey := sa _ _ (upd_same (H := H7) (a := y) (o := partS))
      have s8 := (s7.trans sy).trans sa
      generalize upd (upd H7 y partS) a (ErrO (.ref cN) (some y) a) = H8 at ea ey s8 ⊢
      refine ⟨_, rfl, a, cN, .ref cN, .ref cN, true, rfl, .inr ⟨y, "part", .str "size", ea, ey⟩, L.eN, fun u r => r, L.kN, true, rfl, iteF ?_⟩
      refine ⟨_, rfl, a, cN, y, .str "size", rfl, ea, ey, L.eN, L.fN, rfl, _, rfl, iteNS rfl ?_⟩
      exact ⟨s6.trans ((Kp.del z1).trans (.of s8)), (tabs_del t6 z1).ext s8, lf.next nd4 hg z1 s8, some (.ref g), some (.ref a), rfl⟩
    · rintro σ H6 ⟨s6, t6, _, w9, w10, rfl⟩
      exact ⟨((s1.trans sK).trans (.of su)).trans s6, t6, some x, w9, w10, rfl⟩
  · rintro σ H1 ⟨s1, t1, v6, v9, v10, rfl⟩
    exact k v6 v9 v10 H1 ⟨s1.draw g1.D, t1⟩
end
end Jd
/-! law of k01, whole. -/
namespace Jd
open PySem PySem.Spec PyProof.Rows L2 RZ LamX Lm Dk
section
variable {P : Program} {w : World} {K : PySem.W.Frag} {mg : Str → Option Value} {base : Heap} {cN cS cPE cL pT : Addr}
def spLaw (K : PySem.W.Frag) (pT : Addr) : Sp := fun vs H Q _ => ∃ (a : Addr) (ns : List Int), vs = [.ref a] ∧ SqL K H a (ns.map V.int) ∧ ns.length ≤ 63 ∧ H pT = some (.tbl #[]) ∧ ∀ H', Q (.bl true) H'
theorem ok_law {f : Addr} {fd : FuncData} (F : Fun K "law" "law" sLaw f fd) (hc : fd.code = .ref cL) (G : LawTop P w K mg base cN cS) (L : LawErr P w K mg base cN cS cPE cL pT) : FnOk P w K mg base CX0 10 f fd ["script"] (spLaw K pT) := by
  refine Fun.okC F scLaw (fun vs H Q E h => ?_) (fun A outer s H vs Q E hr h => ?_)
  · obtain ⟨a, ns, rfl, _⟩ := h
    rfl
  rw [hc] at hr ⊢
  obtain ⟨fB, dB, gB⟩ := G.begun
  obtain ⟨a, ns, rfl, hS, hlen, hT, k⟩ := h
  refine ⟨_, pss_cons (ps_set (X := LY P w K mg base f cL A outer s H E) (i := 1) ndL rfl (Or.inr rfl) (gB.pe (X := LY P w K mg base f cL A outer s H E) (hr.mono (show 1 ≤ 9 by decide)) pass0 (pa_cons (pv 0) pa_nil) rfl))
    (pss_cons (ps_for (X := LY P w K mg base f cL A outer s H E) PassesOwn.never rfl (pi_range1 (by rfl) G.rng (pa_cons (pe_op op_add pe_int (pe_callB (call_min2 rfl) (by rfl) G.min (by decide +kernel) (pa_cons (pe_callB call_len_seq (by rfl) G.len PySem.boot_len (pa_cons (pv 0) pa_nil)) (pa_cons pe_int pa_nil)))) pa_nil))
      (pg_name (i := 2) ndL rfl (Or.inl rfl))
      (pss_cons (st0 (T := TT1 pT) G hr) (pss_cons (st1 G hr) (pss_cons (st2 (T := TT1 pT) G hr) (pss_cons (st3 (T := TT1 pT) G hr) (pss_cons (st4 G hr) (pss_cons (st5 (T := TT1 pT) G hr) (pss_cons (st6 (T := TT1 pT) G hr) (pss_cons (st7 (T := TT1 pT) G hr)
        (pss_cons (st8 (T := TT1 pT) G hr) (pss_cons (st9 G hr) (pss_cons (st10 (T := TT1 pT) G hr) (pss_cons (st11 (T := TT1 pT) G hr) (pss_cons (st12 G L hr) (pss_one (st13 G L hr))))))))))))))))
    (pss_one (ps_ret pe_bl))), ?_⟩
  refine ⟨_, rfl, a, ns, rfl, hS, hlen, fun d l c H1 s1 nd nl nc D1 => ?_⟩
  have g1 : Good (TT1 pT) H1 d l c := ⟨D1, fun p hp => by
    rw [List.mem_singleton] at hp
    rw [hp]
    exact TabS.nil (s1 _ _ hT)⟩
  have hS1 : SqL K H1 a (ns.map V.int) := Kp.sqL (.of s1) hS
  have hlen' : (ns.map V.int).length ≤ 63 := by rw [List.length_map]; exact hlen
  refine ⟨.ref a, rfl, a, ns.map V.int, rfl, .inl hS1, _, _, rfl, _, _, rfl, rfl, ?_⟩
  have hb : ∃ m : Nat, (2 + (if (8 : Int) < ((ns.map V.int).length : Nat) then 8 else (((ns.map V.int).length : Nat) : Int))) = (m : Int) ∧ m ≤ 100 := by
    by_cases h8 : (8 : Int) < ((ns.map V.int).length : Nat)
    · exact ⟨10, by rw [if_pos h8]; rfl, by decide⟩
    · exact ⟨2 + (ns.map V.int).length, by rw [if_neg h8]; omega, by omega⟩
  obtain ⟨m, em, m100⟩ := hb
  refine ⟨m, by rw [← em], by omega, by omega, ?_⟩
  rw [Int.toNat_natCast]
  refine for_range (lo := 0) (n := m) (fun i σ H' => Good (TT1 pT) H' d l c ∧ ∃ v2 v3 v4 v5 v6 v7 v8 v9 v10, σ = (Fr.mk a d v2 v3 v4 v5 v6 v7 v8 v9 v10).st) ⟨g1, none, none, none, none, none, none, none, none, none, rfl⟩ ?_ ?_
  · rintro i σ H2 hi ⟨g2, v2, v3, v4, v5, v6, v7, v8, v9, v10, rfl⟩
    refine ⟨Fr.mk a d (some (.int (0 + (i : Int)))) v3 v4 v5 v6 v7 v8 v9 v10, l, c, rfl, g2, fun g H3 hg g3 => ?_⟩
    refine ⟨_, g, rfl, rfl, hg, ?_⟩
    refine ⟨_, l, c, rfl, g3, fun p ts H4 ha g4 => ?_⟩
    refine ⟨_, l, c, p, ts, rfl, rfl, ha, g4, fun v g' H5 hs hg' ha5 g5 => ?_⟩
    refine ⟨_, v, ts, g', rfl, rfl, hs, hg', fun H6 s6 => ?_⟩
    refine ⟨_, l, c, rfl, g5.same s6, fun w6 H7 s7 g7 => ?_⟩
    refine ⟨_, l, c, p, ts, rfl, rfl, (ha5.same s6).same s7, g7, fun o xs H8 s8 no eo hD g8 => ?_⟩
    refine ⟨_, l, c, o, ts, xs, rfl, rfl, eo, hD, g8, fun w6' H9 s9 g9 => ?_⟩
    refine ⟨_, l, c, rfl, g9, fun p8 nm HA hn hgd gA => ?_⟩
    refine ⟨_, p8, nm, rfl, rfl, hn, hgd, fun HB sB => ?_⟩
    refine ⟨_, l, c, rfl, gA.same sB, fun o2 xs2 Hb HC eo2 no2 lx nb sb hbad gC => ?_⟩
    have off := (gA.same sB).new no2
    refine ⟨_, l, c, o2, xs2, rfl, rfl, eo2, lx, ⟨Hb, nb, sb, hbad⟩, off.1, off.2.1, off.2.2, gC, fun ys HD eys ly hb gD => ?_⟩
    refine ⟨_, l, c, o2, ys, rfl, rfl, eys, hb, gD, fun w6'' w9 HE gE => ?_⟩
    refine ⟨_, l, c, rfl, gE, fun u6 u9 u10 HF gF => ?_⟩
    exact ⟨gF, _, _, _, _, _, _, _, _, _, rfl⟩
  · rintro σ H2 ⟨_, v2, v3, v4, v5, v6, v7, v8, v9, v10, rfl⟩
    exact k H2
end
end Jd
/-! What the top has written of own error classes: for every law. -/
namespace Ef
open PySem PySem.Spec PyProof.Rows L2
/-! ### what the top has written -/
abbrev veM : List Value := [.type "ValueError", .type "Exception", .type "BaseException", .type "object"]
/-- of one class, over PlayError at cP -/
structure ClsF (K : PySem.W.Frag) (cP C : Addr) : Prop where
  cl : ∃ cd : ClassData, PySem.W.clsIn K C = some cd ∧ cd.mro = .ref C :: .ref cP :: veM ∧ cd.hasDict = true
  ty : PySem.W.typeIn K (.ref C) = some (.type "type")
  ga : PySem.W.findIn K (.ref C) "__getattribute__" = some (some (.builtin "BaseException.__getattribute__"))
  gg : PySem.W.findIn K (.ref C) "__getattr__" = some none
  gc : PySem.W.findIn K (.ref C) "__class__" = some (some (.builtin "object.__class__"))
structure PlayF (K : PySem.W.Frag) (cP : Addr) : Prop where
  cl : ∃ cd : ClassData, PySem.W.clsIn K cP = some cd ∧ cd.mro = .ref cP :: veM ∧ cd.hasDict = true
  ty : PySem.W.typeIn K (.ref cP) = some (.type "type")
  ga : PySem.W.findIn K (.ref cP) "__getattribute__" = some (some (.builtin "BaseException.__getattribute__"))
  gg : PySem.W.findIn K (.ref cP) "__getattr__" = some none
  gc : PySem.W.findIn K (.ref cP) "__class__" = some (some (.builtin "object.__class__"))
section
variable {K : PySem.W.Frag} {cP C C' : Addr} {cd : ClassData} {m : List Value}
theorem sub_mro {b : Value} {r : Bool} (e : PySem.W.clsIn K C = some cd) (h : cd.mro = m) (hm : m ≠ []) (hb : m.contains b = r) : PySem.W.subIn K (.ref C) b = some r := by
  show PySem.W.mroIn K C b = some r
  unfold PySem.W.mroIn
  rw [e, Option.bind_some, h, hb, if_neg]
  intro z
  rw [List.isEmpty_iff] at z
  exact hm z
theorem kit_cls {r : Bool} (e : ∃ cd : ClassData, PySem.W.clsIn K C' = some cd) (ty : PySem.W.typeIn K (.ref C') = some (.type "type")) (ne : C ≠ C') (s : PySem.W.subIn K (.ref C) (.ref C') = some r) : PySem.W.kitOne K (.ref C) (.ref C') = some r := by
  obtain ⟨cd, e⟩ := e
  have q : (Value.ref C == Value.ref C') = false := by simp [ne]
  show (if (Value.ref C == Value.ref C') = true then some true else PySem.W.kitCls K (.ref C) (.ref C')) = some r
  rw [q, if_neg Bool.false_ne_true]
  show (if ((PySem.W.clsIn K C').isSome && PySem.W.typeIn K (.ref C') == some (.type "type")) = true then PySem.W.subIn K (.ref C) (.ref C') else none) = some r
  rw [e, ty, if_pos (by simp)]
  exact s
theorem kit_type {r : Bool} (s : PySem.W.subIn K (.ref C) (.type "ValueError") = some r) : PySem.W.kitOne K (.ref C) (.type "ValueError") = some r := by
  show (if (Value.ref C == Value.type "ValueError") = true then some true else PySem.W.kitCls K (.ref C) (.type "ValueError")) = some r
  rw [show (Value.ref C == Value.type "ValueError") = false from rfl, if_neg Bool.false_ne_true]
  show (if PySem.W.kitMeta "ValueError" = true then PySem.W.subIn K (.ref C) (.type "ValueError") else none) = some r
  rw [if_pos (by decide +kernel)]
  exact s
theorem kit_self : PySem.W.kitOne K (.ref C) (.ref C) = some true := by
  show (if (Value.ref C == Value.ref C) = true then some true else _) = some true
  rw [if_pos (by simp)]
theorem has_dict (e : PySem.W.clsIn K C = some cd) (h : cd.hasDict = true) : PySem.W.hasDictIn K C = true := by
  unfold PySem.W.hasDictIn
  rw [e]
  exact h
/-- what is asked of object.__class__ -/
structure ObjF (K : PySem.W.Frag) : Prop where
  hn : PySem.W.specialIn K (.builtin "object.__class__") "__get__" = some (some (.builtin "getset_descriptor.__get__"))
  ht : PySem.W.takesIn K (.builtin "object.__class__") = some true
theorem ClsF.exc (f : ClsF K cP C) (o : ObjF K) : ExcC K C := by
  obtain ⟨cd, e, h, hd⟩ := f.cl
  exact ⟨f.ga, f.gg, sub_mro e h (by simp) (by simp), has_dict e hd, f.gc, o.hn, o.ht, sub_mro e h (by simp) (by simp)⟩
theorem PlayF.exc (f : PlayF K cP) (o : ObjF K) : ExcC K cP := by
  obtain ⟨cd, e, h, hd⟩ := f.cl
  exact ⟨f.ga, f.gg, sub_mro e h (by simp) (by simp), has_dict e hd, f.gc, o.hn, o.ht, sub_mro e h (by simp) (by simp)⟩
theorem ClsF.no (f : ClsF K cP C) (g : ClsF K cP C') (ne : C ≠ C') (nP : C' ≠ cP) : PySem.W.kitOne K (.ref C) (.ref C') = some false := by
  obtain ⟨cd, e, h, _⟩ := f.cl
  obtain ⟨cd', e', _⟩ := g.cl
  exact kit_cls ⟨_, e'⟩ g.ty ne (sub_mro e h (by simp) (by simp [ne.symm, nP]))
theorem ClsF.play (f : ClsF K cP C) (g : PlayF K cP) (nP : C ≠ cP) : PySem.W.kitOne K (.ref C) (.ref cP) = some true := by
  obtain ⟨cd, e, h, _⟩ := f.cl
  obtain ⟨cd', e', _⟩ := g.cl
  exact kit_cls ⟨_, e'⟩ g.ty nP (sub_mro e h (by simp) (by simp))
theorem ClsF.ve (f : ClsF K cP C) : PySem.W.kitOne K (.ref C) (.type "ValueError") = some true := by
  obtain ⟨cd, e, h, _⟩ := f.cl
  exact kit_type (sub_mro e h (by simp) (by simp))
theorem PlayF.ve (f : PlayF K cP) : PySem.W.kitOne K (.ref cP) (.type "ValueError") = some true := by
  obtain ⟨cd, e, h, _⟩ := f.cl
  exact kit_type (sub_mro e h (by simp) (by simp))
theorem PlayF.no (f : PlayF K cP) (g : ClsF K cP C') (nP : C' ≠ cP) : PySem.W.kitOne K (.ref cP) (.ref C') = some false := by
  obtain ⟨cd, e, h, _⟩ := f.cl
  obtain ⟨cd', e', _⟩ := g.cl
  exact kit_cls ⟨_, e'⟩ g.ty nP.symm (sub_mro e h (by simp) (by simp [nP]))
/-- PlayError's way to ValueError.__init__ -/
theorem ClsF.sup (f : ClsF K cP C) (g : PlayF K cP) (nP : C ≠ cP) (hi : PySem.W.findIn K (.ref cP) "__init__" = some (some (.builtin "ValueError.__init__"))) : PySem.W.ks_superIn K C C "__init__" = some (some (.builtin "ValueError.__init__")) := by
  obtain ⟨cd, e, h, _⟩ := f.cl
  obtain ⟨cd', e', h', _⟩ := g.cl
  have along : PySem.W.alongIn K "__init__" (.ref cP :: veM) = some (some (.builtin "ValueError.__init__")) := by
    have q := hi
    unfold PySem.W.findIn at q
    dsimp only at q
    unfold PySem.W.clsIn at e'
    revert q e'
    cases K.lookup cP with
    | none => intro e'; cases e'
    | some ob =>
      obtain ⟨oc, od, da, osl⟩ := ob
      cases da <;> intro e' q <;> first | (cases e'; done) | (obtain rfl := Option.some.inj e'; have q' : PySem.W.alongIn K "__init__" _ = _ := q; rw [h'] at q'; exact q')
  unfold PySem.W.ks_superIn
  rw [e, Option.bind_some, h]
  have dr : ((Value.ref C :: .ref cP :: veM).dropWhile (· != .ref C)).drop 1 = .ref cP :: veM := by simp [List.dropWhile_cons]
  rw [dr]
  exact along
end
end Ef
namespace Ef
open PySem PySem.Spec PyProof.Rows L2
section
variable {K : PySem.W.Frag} {mg : Str → Option Value} {cP C fI : Addr} {cd : ClassData}
theorem clsF_mk (e : PySem.W.clsIn K C = some cd) (m : cd.mro = .ref C :: .ref cP :: veM) (d : cd.hasDict = true) (t : PySem.W.typeIn K (.ref C) = some (.type "type"))
    (a : PySem.W.findIn K (.ref C) "__getattribute__" = some (some (.builtin "BaseException.__getattribute__"))) (b : PySem.W.findIn K (.ref C) "__getattr__" = some none) (c : PySem.W.findIn K (.ref C) "__class__" = some (some (.builtin "object.__class__"))) : ClsF K cP C :=
  ⟨⟨cd, e, m, d⟩, t, a, b, c⟩
theorem playF_mk (e : PySem.W.clsIn K cP = some cd) (m : cd.mro = .ref cP :: veM) (d : cd.hasDict = true) (t : PySem.W.typeIn K (.ref cP) = some (.type "type"))
    (a : PySem.W.findIn K (.ref cP) "__getattribute__" = some (some (.builtin "BaseException.__getattribute__"))) (b : PySem.W.findIn K (.ref cP) "__getattr__" = some none) (c : PySem.W.findIn K (.ref cP) "__class__" = some (some (.builtin "object.__class__"))) : PlayF K cP :=
  ⟨⟨cd, e, m, d⟩, t, a, b, c⟩
/-- names and what they mean, one by one -/
inductive NsAll (K : PySem.W.Frag) : List Str → List Addr → Prop
  | nil : NsAll K [] []
  | cons {x : Str} {C : Addr} {xs : List Str} {cs : List Addr} (h : PySem.W.nsIn K mainGlobals x = some (some (.ref C))) (t : NsAll K xs cs) : NsAll K (x :: xs) (C :: cs)
theorem NsAll.at_ {xs : List Str} {cs : List Addr} (n : NsAll K xs cs) : ∀ {i : Nat} {x : Str}, xs[i]? = some x → PySem.W.nsIn K mainGlobals x = some (some (.ref (cs.getD i 0))) := by
  induction n with
  | nil => intro i x e; cases e
  | cons h t ih =>
    intro i x e
    match i, e with
    | 0, e => cases e; exact h
    | i + 1, e => exact ih e
inductive ClsAll (K : PySem.W.Frag) (cP : Addr) : List Addr → Prop
  | nil : ClsAll K cP []
  | cons {C : Addr} {cs : List Addr} (h : ClsF K cP C) (t : ClsAll K cP cs) : ClsAll K cP (C :: cs)
theorem ClsAll.at_ {cs : List Addr} (n : ClsAll K cP cs) : ∀ {i : Nat}, i < cs.length → ClsF K cP (cs.getD i 0) := by
  induction n with
  | nil => intro i e; cases e
  | cons h t ih =>
    intro i e
    match i, e with
    | 0, e => exact h
    | i + 1, e => exact ih (Nat.lt_of_succ_lt_succ e)
inductive ExcAll (K : PySem.W.Frag) : List Addr → Prop
  | nil : ExcAll K []
  | cons {C : Addr} {cs : List Addr} (h : PySem.W.excIn K C [.type "ValueError", .type "Exception", .type "BaseException", .type "object"] "ValueError.__new__" = true) (k : PySem.W.keepIn K (.ref C) = true) (t : ExcAll K cs) : ExcAll K (C :: cs)
theorem ExcAll.at_ {cs : List Addr} (n : ExcAll K cs) : ∀ {i : Nat}, i < cs.length → PySem.W.excIn K (cs.getD i 0) [.type "ValueError", .type "Exception", .type "BaseException", .type "object"] "ValueError.__new__" = true ∧ PySem.W.keepIn K (.ref (cs.getD i 0)) = true := by
  induction n with
  | nil => intro i e; cases e
  | cons h k t ih =>
    intro i e
    match i, e with
    | 0, e => exact ⟨h, k⟩
    | i + 1, e => exact ih (Nat.lt_of_succ_lt_succ e)
/-- what the top says of an own error with a field, its way to ValueError aside -/
structure ErrF (P : Program) (K : PySem.W.Frag) (C fI : Addr) (pn : Str) : Prop where
  oex : OexC K C
  iC : PySem.W.findIn K (.ref C) "__init__" = some (some (.ref fI))
  tI : PySem.W.typeIn K (.ref fI) = some (.type "function")
  noN : PySem.W.findIn K (.ref C) pn = some none
  fn : ∃ (oc : Value) (od : Option Addr) (kV doc pm ct : Value) (an : Option Addr) (osl : Array (Option Value)) (cc cda : Addr) (qual msg : Str) (k0 : Nat) (p1 p2 q0 q1 q2 q3 q4 q5 q6 q7 q8 q9 : Pos)
      (cl ccl : Value) (cld cdd : Option Addr) (csl ccs : Array (Option Value)) (vs : Array Value) (file : Str) (tf : Tok),
    K.lookup fI = some ⟨oc, od, .func (PySem.W.fnX "__init__" qual (Er.eArgs pn p1 p2) (Er.eBody pn msg k0 q0 q1 q2 q3 q4 q5 q6 q7 q8 q9) (Er.eScope pn) [("__class__", cc)] .none kV doc pm an (.ref cda) ct), osl⟩ ∧
    PySem.W.codeIn K (.ref cda) qual = true ∧ K.lookup cc = some ⟨cl, cld, .cell (some (.ref C)), csl⟩ ∧ K.lookup cda = some ⟨ccl, cdd, .fields vs, ccs⟩ ∧ vs[2]? = some (.str file tf) ∧ ((P.main.file : Str) == file) = true ∧ (q2.endLine == q4.line) = true
  pn : Er.PnOk pn
theorem errF_mk {P : Program} {pn : Str} {nm q : Str} {N : Addr} {bs : List Value} {bm : List Value} {sn : List Str} {sub : List Value} {ab : Bool} {col : Option Bool} {dd : Option Addr} {m0 m1 m2 m3 m5 : Option Value}
    {oc kV doc pm ct cl ccl : Value} {od an cld cdd : Option Addr} {osl csl ccs : Array (Option Value)} {cc cda : Addr} {qual msg : Str} {k0 : Nat} {p1 p2 q0 q1 q2 q3 q4 q5 q6 q7 q8 q9 : Pos} {vs : Array Value} {file : Str} {tf : Tok}
    (xL : K.lookup C = some (excClassObj nm q C N bs bm true sn sub ab col dd m0 m1 m2 m3 m5 "ValueError.__new__")) (rf : PySem.HandSPX.refsVE bm = true)
    (sa : PySem.W.findIn K (.ref C) "__setattr__" = some (some (.builtin "object.__setattr__"))) (eC : PySem.W.subIn K (.ref C) (.type "BaseException") = some true) (tC : PySem.W.typeIn K (.ref C) = some (.type "type")) (kC : PySem.W.keepIn K (.ref C) = true)
    (iC : PySem.W.findIn K (.ref C) "__init__" = some (some (.ref fI))) (tI : PySem.W.typeIn K (.ref fI) = some (.type "function")) (noN : PySem.W.findIn K (.ref C) pn = some none)
    (l : K.lookup fI = some ⟨oc, od, .func (PySem.W.fnX "__init__" qual (Er.eArgs pn p1 p2) (Er.eBody pn msg k0 q0 q1 q2 q3 q4 q5 q6 q7 q8 q9) (Er.eScope pn) [("__class__", cc)] .none kV doc pm an (.ref cda) ct), osl⟩)
    (cI : PySem.W.codeIn K (.ref cda) qual = true) (lc : K.lookup cc = some ⟨cl, cld, .cell (some (.ref C)), csl⟩) (ld : K.lookup cda = some ⟨ccl, cdd, .fields vs, ccs⟩) (v2 : vs[2]? = some (.str file tf))
    (fl : ((P.main.file : Str) == file) = true) (ln : (q2.endLine == q4.line) = true) (po : Er.PnOk pn) : ErrF P K C fI pn :=
  ⟨⟨⟨nm, q, N, bs, bm, sn, sub, ab, col, dd, m0, m1, m2, m3, m5, xL, rf⟩, sa, eC, tC, kC⟩, iC, tI, noN, ⟨oc, od, kV, doc, pm, ct, an, osl, cc, cda, qual, msg, k0, p1, p2, q0, q1, q2, q3, q4, q5, q6, q7, q8, q9, cl, ccl, cld, cdd, csl, ccs, vs, file, tf, l, cI, lc, ld, v2, fl, ln⟩, po⟩
inductive ErrAll (P : Program) (K : PySem.W.Frag) : List Str → List Addr → List Addr → Prop
  | nil : ErrAll P K [] [] []
  | cons {x : Str} {C f : Addr} {xs : List Str} {cs fs : List Addr} (h : ErrF P K C f x) (t : ErrAll P K xs cs fs) : ErrAll P K (x :: xs) (C :: cs) (f :: fs)
theorem ErrAll.at_ {P : Program} {xs : List Str} {cs fs : List Addr} (n : ErrAll P K xs cs fs) : ∀ {i : Nat} {x : Str}, xs[i]? = some x → ErrF P K (cs.getD i 0) (fs.getD i 0) x := by
  induction n with
  | nil => intro i x e; cases e
  | cons h t ih =>
    intro i x e
    match i, e with
    | 0, e => cases e; exact h
    | i + 1, e => exact ih e
theorem errTxt_of {P : Program} {pn : Str} (E : ErrF P K C fI pn) (f : ClsF K cP C) (g : PlayF K cP) (nP : C ≠ cP) (hi : PySem.W.findIn K (.ref cP) "__init__" = some (some (.builtin "ValueError.__init__"))) (any : PySem.W.nsIn K cStatics "thirdparty.any" = some none)
    (mgS : mg "super" = none) (top : (P.main.scope.names.lookup ("super" : Str)).isSome = false) : Er.ErrTxt P K mg C fI pn := by
  obtain ⟨cd, e, h, _⟩ := id f.cl
  exact ⟨E.oex, E.iC, E.tI, E.noN, E.fn, any, f.sup g nP hi, sub_mro e h (by simp) (by simp), sub_mro e h (by simp) (by simp), mgS, top, E.pn⟩
end
end Ef
/-! What the top has written: defs, dicts and tuples, by their names; for every law. -/
namespace Wr
open PySem PySem.Spec PyProof.Rows L2
section
variable {K : PySem.W.Frag} {w : World} {h : Heap} {mg : Str → Option Value}
/-- a def of the top -/
def DefE (K : PySem.W.Frag) (x : Str) (st : Stmt) : Prop := ∃ (f : Addr) (fd : FuncData), PySem.W.nsIn K mainGlobals x = some (some (.ref f)) ∧ Fun K x x st f fd
theorem defE_mk {x : Str} {st : Stmt} {f : Addr} {oc : Value} {od an : Option Addr} {osl : Array (Option Value)} {kV doc pm cdv ct : Value} (a : PySem.W.nsIn K mainGlobals x = some (some (.ref f)))
    (l : K.lookup f = some ⟨oc, od, .func (PySem.W.fnOf x x (defArgs st) (defBody st) (defScope st) .none kV doc pm an cdv ct), osl⟩) (c : PySem.W.codeIn K cdv x = true) (k : PySem.W.keepIn K (.ref f) = true) : DefE K x st := ⟨f, _, a, fun_mk l c k⟩
theorem DefE.get {x : Str} {st : Stmt} (D : DefE K x st) (X : K.In h) (G : h.Ns mainGlobals mg) : ∃ f fd, mg x = some (.ref f) ∧ Fun K x x st f fd := by
  obtain ⟨f, fd, a, F⟩ := D
  exact ⟨f, fd, PySem.W.mg_of X G a, F⟩
/-- a class of the top whose `__init__` is its own -/
def ClsE (K : PySem.W.Frag) (x q : Str) (st : Stmt) : Prop := ∃ (C f : Addr) (fd : FuncData), PySem.W.nsIn K mainGlobals x = some (some (.ref C)) ∧ Mk K C f ∧ Fun K "__init__" q st f fd
theorem clsE_mk {x q : Str} {st : Stmt} {C f : Addr} {oc : Value} {od an : Option Addr} {osl : Array (Option Value)} {kV doc pm cdv ct : Value} (a : PySem.W.nsIn K mainGlobals x = some (some (.ref C))) (i : PySem.W.findIn K (.ref C) "__init__" = some (some (.ref f)))
    (l : K.lookup f = some ⟨oc, od, .func (PySem.W.fnOf "__init__" q (defArgs st) (defBody st) (defScope st) .none kV doc pm an cdv ct), osl⟩) (c : PySem.W.codeIn K cdv q = true) (k : PySem.W.keepIn K (.ref f) = true) (fn : PySem.W.isFn K (.ref f) = true) (mk : PySem.W.makesIn K C = true) (kp : PySem.W.keepIn K (.ref C) = true) : ClsE K x q st :=
  ⟨C, f, _, a, ⟨mk, i, fn, kp⟩, fun_mk l c k⟩
/-! ### dicts with text keys -/
def kvOf (e : DictEntry) : Option (Str × Value) := match e.key with
  | .str x _ => some (x, e.val)
  | _ => none
/-- rows of a dict, each told -/
inductive Rows {β : Type} (R : Value → β → Prop) : List (Option (Str × Value)) → List (Str × β) → Prop
  | nil : Rows R [] []
  | cons {x : Str} {u : Value} {b : β} {l : List (Option (Str × Value))} {m : List (Str × β)} (r : R u b) (t : Rows R l m) : Rows R (some (x, u) :: l) ((x, b) :: m)
theorem kv_str {e : DictEntry} {x : Str} {u : Value} (h : kvOf e = some (x, u)) : ∃ t, e.key = .str x t ∧ e.val = u := by
  unfold kvOf at h
  split at h
  · rename_i y t q
    cases h
    exact ⟨t, q, rfl⟩
  · cases h
theorem Rows.find {β : Type} {R : Value → β → Prop} {z : Str} : ∀ {es : List DictEntry} {m : List (Str × β)}, Rows R (es.map kvOf) m → ((m.lookup z = none ∧ es.find? (·.key.isStr z) = none ∧ es.any (·.refKey) = false) ∨ ∃ b e, m.lookup z = some b ∧ es.find? (·.key.isStr z) = some e ∧ R e.val b) := by
  intro es
  induction es with
  | nil =>
    intro m r
    cases r
    exact .inl ⟨rfl, rfl, rfl⟩
  | cons e es ih =>
    intro m r
    rw [List.map_cons] at r
    generalize hk : kvOf e = o at r
    cases r with
    | @cons x u b l m r t =>
      obtain ⟨tk, ek, rfl⟩ := kv_str hk
      have is : e.key.isStr z = (x == z) := by rw [ek]; rfl
      have rk : e.refKey = false := by
        obtain ⟨hh, kk, vv⟩ := e
        dsimp only at ek
        subst ek
        rfl
      by_cases q : x = z
      · subst q
        refine .inr ⟨b, e, ?_, ?_, r⟩
        · rw [List.lookup_cons, beq_self_eq_true]
        · rw [List.find?_cons, is, beq_self_eq_true]
      · have q1 : (x == z) = false := beq_eq_false_iff_ne.mpr q
        have q2 : (z == x) = false := beq_eq_false_iff_ne.mpr (Ne.symm q)
        rcases ih t with ⟨h1, h2, h3⟩ | ⟨b', e', h1, h2, h3⟩
        · refine .inl ⟨?_, ?_, ?_⟩
          · rw [List.lookup_cons, q2]; exact h1
          · rw [List.find?_cons, is, q1]; exact h2
          · rw [List.any_cons, rk, h3]; rfl
        · refine .inr ⟨b', e', ?_, ?_, h3⟩
          · rw [List.lookup_cons, q2]; exact h1
          · rw [List.find?_cons, is, q1]; exact h2
/-- a dict of the top -/
def DictE {β : Type} (K : PySem.W.Frag) (w : World) (x : Str) (R : Value → β → Prop) (m : List (Str × β)) : Prop := ∃ (d : Addr) (es : Array DictEntry) (n : Nat), PySem.W.nsIn K mainGlobals x = some (some (.ref d)) ∧ KDict K w d es n ∧ Rows R (es.toList.map kvOf) m
theorem dictE_mk {β : Type} {x : Str} {R : Value → β → Prop} {m : List (Str × β)} {d : Addr} {es : Array DictEntry} {n : Nat} (a : PySem.W.nsIn K mainGlobals x = some (some (.ref d))) (l : K.lookup d = some ⟨.type "dict", none, .dict es n, #[]⟩) (k : PySem.W.KeysLit w.params es.toList)
    (o : (d == sysModules) = false) (r : Rows R (es.toList.map kvOf) m) : DictE K w x R m := ⟨d, es, n, a, ⟨l, k, o⟩, r⟩
theorem DictE.at_ {β : Type} {R : Value → β → Prop} {m : List (Str × β)} {d : Addr} {es : Array DictEntry} {n : Nat} (D : KDict K w d es n) (r : Rows R (es.toList.map kvOf) m) (z : Str) :
    (m.lookup z = none ∧ PySem.W.nsIn K d z = some none) ∨ ∃ b u, m.lookup z = some b ∧ PySem.W.nsIn K d z = some (some u) ∧ R u b := by
  have e : ∀ (o : Option DictEntry), es.toList.find? (·.key.isStr z) = o → PySem.W.nsIn K d z = (match o with | some e => some (some e.val) | none => if es.toList.any (·.refKey) then none else some none) := fun o h => by
    unfold PySem.W.nsIn
    rw [D.at_]
    show (match es.toList.find? (·.key.isStr z) with | some e => some (some e.val) | none => if es.toList.any (·.refKey) then none else some none) = _
    rw [h]
  rcases r.find (z := z) with ⟨h1, h2, h3⟩ | ⟨b, en, h1, h2, h3⟩
  · refine .inl ⟨h1, ?_⟩
    rw [e _ h2]
    show (if es.toList.any (·.refKey) = true then none else some none) = some none
    rw [h3]
    rfl
  · exact .inr ⟨b, en.val, h1, e _ h2, h3⟩
/-- a tuple of the top -/
def TupE (K : PySem.W.Frag) (vs : List V) (u : Value) : Prop := ∃ a, u = .ref a ∧ ∀ H : Hp, SqT K H a vs
theorem tupE_mk {vs : List V} {a : Addr} {dd : Option Addr} {its : Array Value} {n : Nat} {sl : Array (Option Value)} (l : K.lookup a = some ⟨.type "tuple", dd, .seq its n, sl⟩) (z : its.size ≤ sizeLine) (v : Vals vs its.toList) : TupE K vs (.ref a) :=
  ⟨a, rfl, fun H => .inr ⟨_, its, n, l, rfl, rfl, z, v⟩⟩
end
end Wr
/-! law of k01: from what the top has written. -/
namespace Jd
open PySem PySem.Spec PyProof.Rows L2 RZ LamX Lm Dk Wr
abbrev sNamesWithin : Stmt := top 29
abbrev sPartAlong : Stmt := top 30
abbrev veT : List Value := [.type "ValueError", .type "Exception", .type "BaseException", .type "object"]
/-- the error classes -/
def ErrE (P : Program) (K : PySem.W.Frag) (mg : Str → Option Value) (cP cN cS cT fN fT : Addr) : Prop :=
  (mg "PlayError" = some (.ref cP) ∧ mg "BadNumber" = some (.ref cN) ∧ mg "BadSort" = some (.ref cS) ∧ mg "BadTerm" = some (.ref cT) ∧ ∃ u, PySem.W.nsIn K mainGlobals "PlayError" = some (some u)) ∧ Ef.PlayF K cP ∧ Ef.ClsF K cP cN ∧ Ef.ClsF K cP cS ∧ Ef.ClsF K cP cT ∧ Ef.ErrF P K cN fN "part" ∧ Ef.ErrF P K cT fT "at" ∧
  PySem.W.excIn K cS veT "ValueError.__new__" = true ∧ PySem.W.keepIn K (.ref cS) = true ∧ (cN ≠ cP ∧ cS ≠ cP ∧ cT ≠ cP)
/-- all that the top has written -/
structure WrE (P : Program) (w : World) (K : PySem.W.Frag) : Prop where
  dNumber : DefE K "is_number" sNumber
  dWithin : DefE K "is_within" sWithin
  dWord : DefE K "is_word" sWord
  dPair : DefE K "is_pair" sPair
  dChkSize : DefE K "check_size" sChkSize
  dPlain : DefE K "is_plain" sPlain
  dSort : DefE K "is_sort" sSort
  dNames : DefE K "is_names" sNames
  dChkNames : DefE K "check_names" sChkNames
  dPaths : DefE K "part_paths" sPaths
  dNamesWithin : DefE K "names_within" sNamesWithin
  dPartAlong : DefE K "part_along" sPartAlong
  dIsTerm : DefE K "is_term" sIsTerm
  dSortOf : DefE K "sort_of" sSortOf
  dChecked : DefE K "checked_sort" sChecked
  dSortAt : DefE K "_sort_at" sSortAt
  dHasForm : DefE K "_has_form" sHasForm
  dUse : DefE K "_is_use" sUse
  dThing : DefE K "_is_thing" sThing
  dWantedSorts : DefE K "_wanted_sorts" sWantedSorts
  dIsWanted : DefE K "_is_wanted" sIsWanted
  dSortGiven : DefE K "_sort_given" sSortGiven
  dBegun : DefE K "_law_begun" Dk.sBegun
  dMixed : DefE K "_law_mixed" Dk.sMixed
  dTake : DefE K "_law_take" Dk.sTake
  dPick : DefE K "_law_pick" Dk.sPick
  dShuffled : DefE K "_law_shuffled" sShuffled
  dCaught : DefE K "_law_caught" sCaught
  dLawNames : DefE K "_law_names" sLawNames
  cPiece : ClsE K "Piece" "Piece.__init__" sPieceInit
  cFunc : ClsE K "Function" "Function.__init__" sFuncInit
  cLook : ∃ (C f : Addr) (fd : FuncData), PySem.W.nsIn K mainGlobals "Look" = some (some (.ref C)) ∧ Mk K C f ∧ Fun K "__init__" "Look.__init__" sLookInit f fd ∧ Cls K C ∧ NoAttr K C "size" ∧ NoAttr K C "nodes"
  errs : ∀ (h : Heap) (mg : Str → Option Value), K.In h → h.Ns mainGlobals mg → ∃ cP cN cS cT fN fT, ErrE P K mg cP cN cS cT fN fT
  obn : PySem.W.specialIn K (.builtin "object.__class__") "__get__" = some (some (.builtin "getset_descriptor.__get__"))
  obt : PySem.W.takesIn K (.builtin "object.__class__") = some true
  hi : ∀ cP, PySem.W.nsIn K mainGlobals "PlayError" = some (some (.ref cP)) → PySem.W.findIn K (.ref cP) "__init__" = some (some (.builtin "ValueError.__init__"))
  any_ : PySem.W.nsIn K cStatics "thirdparty.any" = some none
  top_ : (P.main.scope.names.lookup ("super" : Str)).isSome = false
  zIsi : PySem.W.nsIn K mainGlobals "isinstance" = some none
  zLen : PySem.W.nsIn K mainGlobals "len" = some none
  zAll : PySem.W.nsIn K mainGlobals "all" = some none
  zInt : PySem.W.nsIn K mainGlobals "int" = some none
  zBool : PySem.W.nsIn K mainGlobals "bool" = some none
  zStr : PySem.W.nsIn K mainGlobals "str" = some none
  zTup : PySem.W.nsIn K mainGlobals "tuple" = some none
  zDict : PySem.W.nsIn K mainGlobals "dict" = some none
  zList : PySem.W.nsIn K mainGlobals "list" = some none
  zAbs : PySem.W.nsIn K mainGlobals "abs" = some none
  zMin : PySem.W.nsIn K mainGlobals "min" = some none
  zRng : PySem.W.nsIn K mainGlobals "range" = some none
  zZip : PySem.W.nsIn K mainGlobals "zip" = some none
  zEnum : PySem.W.nsIn K mainGlobals "enumerate" = some none
  zSup : PySem.W.nsIn K mainGlobals "super" = some none
  plain : ∃ u, PySem.W.nsIn K mainGlobals "PLAIN_SORTS" = some (some u) ∧ TupE K plainVs u
  signs_ : ∃ t, PySem.W.nsIn K mainGlobals "SIGNS" = some (some (.str signs t))
  mostN : ∃ t, PySem.W.nsIn K mainGlobals "MOST_NAMES" = some (some (.int 4 t))
  mostD : ∃ t, PySem.W.nsIn K mainGlobals "MOST_DEPTH" = some (some (.int 12 t))
  mostM : ∃ t, PySem.W.nsIn K mainGlobals "MOST_NODES" = some (some (.int 60 t))
  forms_ : DictE K w "FORMS" (fun u (ws : List Str) => TupE K (ws.map V.str) u) forms
  given_ : DictE K w "GIVEN" (fun u (g : Str) => ∃ t, u = .str g t) givens
  parts_ : DictE K w "PARTS" (fun u (ps : List Int) => TupE K (ps.map V.int) u) partsT
section
variable {P : Program} {w : World} {K : PySem.W.Frag} {h : Heap} {mg : Str → Option Value}
theorem formTop (W : WrE P w K) (X : K.In h) (G : h.Ns mainGlobals mg) : ∃ d es n, FormTop K w mg d es n := by
  obtain ⟨d, es, n, a, D, r⟩ := W.forms_
  refine ⟨d, es, n, PySem.W.mg_of X G a, D, fun z => ?_, PySem.W.mg_none_of X G W.zZip⟩
  rcases DictE.at_ D r z with ⟨h1, h2⟩ | ⟨b, u, h1, h2, a, rfl, hs⟩
  · exact .inl ⟨h1, h2⟩
  · exact .inr ⟨b, a, h1, h2, hs⟩
theorem givenTop (W : WrE P w K) (X : K.In h) (G : h.Ns mainGlobals mg) : ∃ d es n, GivenTop K w mg d es n := by
  obtain ⟨d, es, n, a, D, r⟩ := W.given_
  refine ⟨d, es, n, PySem.W.mg_of X G a, D, fun z => ?_⟩
  rcases DictE.at_ D r z with ⟨h1, h2⟩ | ⟨b, u, h1, h2, t, rfl⟩
  · exact .inl ⟨h1, h2⟩
  · exact .inr ⟨b, t, h1, h2⟩
theorem partTop (W : WrE P w K) (X : K.In h) (G : h.Ns mainGlobals mg) : ∃ d es n, PartTop K w mg d es n := by
  obtain ⟨d, es, n, a, D, r⟩ := W.parts_
  refine ⟨d, es, n, PySem.W.mg_of X G a, fun z ps e => ?_, PySem.W.mg_none_of X G W.zRng, PySem.W.mg_none_of X G W.zLen⟩
  rcases DictE.at_ D r z with ⟨h1, h2⟩ | ⟨b, u, h1, h2, a, rfl, hs⟩
  · rw [h1] at e
    cases e
  · rw [h1] at e
    cases e
    exact ⟨a, ⟨es, n, _, D.at_, D.lit, h2, rfl⟩, hs⟩
theorem top_of (W : WrE P w K) (X : K.In h) (G : h.Ns mainGlobals mg) : ∃ aP, Top K mg aP := by
  obtain ⟨u, hu, a, rfl, hs⟩ := W.plain
  obtain ⟨t1, e1⟩ := W.signs_
  obtain ⟨t2, e2⟩ := W.mostN
  have z : ∀ {x : Str}, PySem.W.nsIn K mainGlobals x = some none → mg x = none := fun e => PySem.W.mg_none_of X G e
  exact ⟨a, z W.zIsi, z W.zLen, z W.zAll, z W.zInt, z W.zBool, z W.zStr, z W.zTup, z W.zDict, PySem.W.mg_of X G hu, hs, ⟨t1, PySem.W.mg_of X G e1⟩, ⟨t2, PySem.W.mg_of X G e2⟩⟩
theorem vals_app {vs zs : List V} {us ws : List Value} (r : Vals vs us) (q : Vals zs ws) : Vals (vs ++ zs) (us ++ ws) := by
  induction r with
  | nil => exact q
  | cons a b ih => exact .cons a ih
/-- all promises -/
theorem law_of {base : Heap} {cL pT : Addr} (W : WrE P w K) (X : K.In base) (G : base.Ns mainGlobals mg) (TB : TabB base mg cL pT) : ∃ cN cS cPE, LawTop P w K mg base cN cS ∧ LawErr P w K mg base cN cS cPE cL pT := by
  have z : ∀ {x : Str}, PySem.W.nsIn K mainGlobals x = some none → mg x = none := fun e => PySem.W.mg_none_of X G e
  obtain ⟨aP, T⟩ := top_of W X G
  obtain ⟨dF, esF, nF, TF⟩ := formTop W X G
  obtain ⟨dG, esG, nG, TG⟩ := givenTop W X G
  obtain ⟨dP, esP, nP, TP⟩ := partTop W X G
  obtain ⟨cP, cN, cS, cT, fN, fT, ⟨mP, mN, mS, mT, hnP⟩, pF, nF', sF, tF, eN, eT, xS, kS, ncN, ncS, ncT⟩ := W.errs base mg X G
  obtain ⟨fNum, dNum, mNum, FNum⟩ := W.dNumber.get X G
  have bNum : Binds K dNum ["thing"] [] := FNum.binds fun _ _ _ _ _ _ us hl => match us, hl with | [_], _ => rfl
  have gNum := ok_number (P := P) (w := w) (mg := mg) (base := base) FNum T.isi T.tInt T.tBool
  obtain ⟨fWithin, dWithin, mWithin, FWithin⟩ := W.dWithin.get X G
  have bWithin : Binds K dWithin ["thing", "least", "most"] [] := FWithin.binds fun _ _ _ _ _ _ us hl => match us, hl with | [_, _, _], _ => rfl
  have gWithin := ok_within FWithin gNum FNum.kp bNum mNum
  obtain ⟨fPair, dPair, mPair, FPair⟩ := W.dPair.get X G
  have bPair : Binds K dPair ["thing"] [] := FPair.binds fun _ _ _ _ _ _ us hl => match us, hl with | [_], _ => rfl
  have gPair := ok_pair (P := P) (w := w) (mg := mg) (base := base) FPair T.isi T.tTup T.len
  obtain ⟨fPlain, dPlain, mPlain, FPlain⟩ := W.dPlain.get X G
  have bPlain : Binds K dPlain ["thing"] [] := FPlain.binds fun _ _ _ _ _ _ us hl => match us, hl with | [_], _ => rfl
  have gPlain := ok_plain (P := P) (w := w) (mg := mg) (base := base) FPlain T
  obtain ⟨fSort, dSort, mSort, FSort⟩ := W.dSort.get X G
  have bSort : Binds K dSort ["thing"] [] := FSort.binds fun _ _ _ _ _ _ us hl => match us, hl with | [_], _ => rfl
  have gSort := ok_sort FSort T gPair FPair.kp bPair mPair gPlain FPlain.kp bPlain mPlain
  obtain ⟨fWord, dWord, mWord, FWord⟩ := W.dWord.get X G
  have bWord : Binds K dWord ["thing"] [] := FWord.binds fun _ _ _ _ _ _ us hl => match us, hl with | [_], _ => rfl
  have gWord := ok_word (P := P) (w := w) (mg := mg) (base := base) FWord T
  obtain ⟨fNames, dNames, mNames, FNames⟩ := W.dNames.get X G
  have bNames : Binds K dNames ["thing"] [] := FNames.binds fun _ _ _ _ _ _ us hl => match us, hl with | [_], _ => rfl
  have gNames := ok_names FNames T gWord FWord.kp bWord mWord gSort FSort.kp bSort mSort
  have hiP := W.hi cP (by
    obtain ⟨f, e⟩ : ∃ u, PySem.W.nsIn K mainGlobals "PlayError" = some (some u) := hnP
    have q := PySem.W.mg_of X G e
    rw [mP] at q
    cases q
    exact e)
  have eNt := Ef.errTxt_of (mg := mg) eN nF' pF ncN hiP W.any_ (z W.zSup) W.top_
  have eTt := Ef.errTxt_of (mg := mg) eT tF pF ncT hiP W.any_ (z W.zSup) W.top_
  have ob : Ef.ObjF K := ⟨W.obn, W.obt⟩
  have bS : PySem.W.subIn K (.ref cS) (.type "BaseException") = some true ∧ PySem.W.subIn K (.ref cS) (.ref cP) = some true := by
    obtain ⟨cd, e, h, _⟩ := sF.cl
    exact ⟨Ef.sub_mro e h (by simp) (by simp), Ef.sub_mro e h (by simp) (by simp)⟩
  have bN : PySem.W.subIn K (.ref cN) (.ref cP) = some true := by
    obtain ⟨cd, e, h, _⟩ := nF'.cl
    exact Ef.sub_mro e h (by simp) (by simp)
  have bP : PySem.W.subIn K (.ref cP) (.type "BaseException") = some true ∧ PySem.W.hasDictIn K cP = true := by
    obtain ⟨cd, e, h, hd⟩ := pF.cl
    exact ⟨Ef.sub_mro e h (by simp) (by simp), Ef.has_dict e hd⟩
  have E : Errs P K mg cN fN cS := ⟨mN, eNt, mS, xS, kS, bS.1, sF.ty⟩
  obtain ⟨fChkSize, dChkSize, mChkSize, FChkSize⟩ := W.dChkSize.get X G
  have bChkSize : Binds K dChkSize ["size"] [] := FChkSize.binds fun _ _ _ _ _ _ us hl => match us, hl with | [_], _ => rfl
  have gChkSize := ok_chkSize FChkSize E gWithin FWithin.kp bWithin mWithin
  obtain ⟨fChkNames, dChkNames, mChkNames, FChkNames⟩ := W.dChkNames.get X G
  have bChkNames : Binds K dChkNames ["names"] [] := FChkNames.binds fun _ _ _ _ _ _ us hl => match us, hl with | [_], _ => rfl
  have gChkNames := ok_chkNames FChkNames E gNames FNames.kp bNames mNames
  have CK : Chk P w K mg base cN cS fChkSize fChkNames dChkSize dChkNames := ⟨gChkSize, FChkSize.kp, bChkSize, mChkSize, gChkNames, FChkNames.kp, bChkNames, mChkNames⟩
  obtain ⟨fThing, dThing, mThing, FThing⟩ := W.dThing.get X G
  have bThing : Binds K dThing ["size", "wanted", "thing"] [] := FThing.binds fun _ _ _ _ _ _ us hl => match us, hl with | [_, _, _], _ => rfl
  have gThing := ok_thing FThing T gWithin FWithin.kp bWithin mWithin gWord FWord.kp bWord mWord
  obtain ⟨fUse, dUse, mUse, FUse⟩ := W.dUse.get X G
  have bUse : Binds K dUse ["names", "term"] [] := FUse.binds fun _ _ _ _ _ _ us hl => match us, hl with | [_, _], _ => rfl
  have gUse := ok_use FUse T gWord FWord.kp bWord mWord
  obtain ⟨fForm, dForm, mForm, FForm⟩ := W.dHasForm.get X G
  have bForm : Binds K dForm ["size", "names", "term"] [] := FForm.binds fun _ _ _ _ _ _ us hl => match us, hl with | [_, _, _], _ => rfl
  have gForm := ok_form FForm T TF gUse FUse.kp bUse mUse gThing FThing.kp bThing mThing
  obtain ⟨fWanted, dWanted, mWanted, FWanted⟩ := W.dIsWanted.get X G
  have bWanted : Binds K dWanted ["sort", "wanted", "ahead"] [] := FWanted.binds fun _ _ _ _ _ _ us hl => match us, hl with | [_, _, _], _ => rfl
  obtain ⟨fSG, dSG, mSG, FSG⟩ := W.dSortGiven.get X G
  have bSG : Binds K dSG ["names", "term", "sorts"] [] := FSG.binds fun _ _ _ _ _ _ us hl => match us, hl with | [_, _, _], _ => rfl
  have gSG := ok_sortGiven (P := P) (base := base) FSG TG
  obtain ⟨fWS, dWS, mWS, FWS⟩ := W.dWantedSorts.get X G
  have bWS : Binds K dWS ["names", "term"] [] := FWS.binds fun _ _ _ _ _ _ us hl => match us, hl with | [_, _], _ => rfl
  have gWS := ok_wantedSorts (P := P) (base := base) FWS TF
  obtain ⟨fPaths, dPaths, mPaths, FPaths⟩ := W.dPaths.get X G
  have bPaths : Binds K dPaths ["term"] [] := FPaths.binds fun _ _ _ _ _ _ us hl => match us, hl with | [_], _ => rfl
  have gPaths := ok_paths (P := P) (base := base) FPaths TP
  obtain ⟨fNW, dNW, mNW, FNW⟩ := W.dNamesWithin.get X G
  have bNW : Binds K dNW ["names", "term", "number"] [] := FNW.binds fun _ _ _ _ _ _ us hl => match us, hl with | [_, _, _], _ => rfl
  obtain ⟨fPA, dPA, mPA, FPA⟩ := W.dPartAlong.get X G
  have bPA : Binds K dPA ["term", "path"] [] := FPA.binds fun _ _ _ _ _ _ us hl => match us, hl with | [_, _], _ => rfl
  obtain ⟨cL, fLI, dLI, nL, ML, FLI, clL, nsL, nnL⟩ := W.cLook
  have mL := PySem.W.mg_of X G nL
  have bLI : Binds K dLI ["self", "size"] [] := FLI.binds fun _ _ _ _ _ _ us hl => match us, hl with | [_, _], _ => rfl
  obtain ⟨tD, eD⟩ := W.mostD
  obtain ⟨tM, eM⟩ := W.mostM
  have LT : LookTop P K mg cL cT fT := ⟨clL, nsL, nnL, mT, eTt, ⟨tD, PySem.W.mg_of X G eD⟩, ⟨tM, PySem.W.mg_of X G eM⟩, z W.zEnum⟩
  obtain ⟨fSA, dSA, mSA, FSA⟩ := W.dSortAt.get X G
  have bSA : Binds K dSA ["look", "names", "term", "at", "depth"] [] := FSA.binds fun _ _ _ _ _ _ us hl => match us, hl with | [_, _, _, _, _], _ => rfl
  have gSA := ok_sortAt0 FSA LT mSA bSA gForm FForm.kp bForm mForm gWS FWS.kp bWS mWS gPaths FPaths.kp bPaths mPaths FWanted.kp bWanted mWanted gSG FSG.kp bSG mSG FNW.kp bNW mNW FPA.kp bPA mPA
  have gLI := ok_lookInit (P := P) (w := w) (mg := mg) (base := base) FLI LT
  obtain ⟨fCk, dCk, mCk, FCk⟩ := W.dChecked.get X G
  have bCk : Binds K dCk ["size", "names", "term"] [] := FCk.binds fun _ _ _ _ _ _ us hl => match us, hl with | [_, _, _], _ => rfl
  have gCk := ok_checked0 FCk ML mL gLI bLI gSA FSA.kp bSA mSA
  obtain ⟨fSO, dSO, mSO, FSO⟩ := W.dSortOf.get X G
  have bSO : Binds K dSO ["size", "names", "term"] [] := FSO.binds fun _ _ _ _ _ _ us hl => match us, hl with | [_, _, _], _ => rfl
  have gSO := ok_sortOf FSO CK FCk.kp bCk mCk
  obtain ⟨fIT, dIT, mIT, FIT⟩ := W.dIsTerm.get X G
  have bIT : Binds K dIT ["size", "names", "thing"] [] := FIT.binds fun _ _ _ _ _ _ us hl => match us, hl with | [_, _, _], _ => rfl
  have gIT := ok_isTerm FIT CK mT gCk FCk.kp bCk mCk
  obtain ⟨cPi, fPi, dPi, nPi, MPi, FPi⟩ := W.cPiece
  have bPi : Binds K dPi ["self", "size", "names", "term"] [] := FPi.binds fun _ _ _ _ _ _ us hl => match us, hl with | [_, _, _, _], _ => rfl
  obtain ⟨cFu, fFu, dFu, nFu, MFu, FFu⟩ := W.cFunc
  have bFu : Binds K dFu ["self", "size", "names", "params", "term"] [] := FFu.binds fun _ _ _ _ _ _ us hl => match us, hl with | [_, _, _, _, _], _ => rfl
  obtain ⟨fBe, dBe, mBe, FBe⟩ := W.dBegun.get X G
  have bBe : Binds K dBe ["script"] [] := FBe.binds fun _ _ _ _ _ _ us hl => match us, hl with | [_], _ => rfl
  obtain ⟨fMi, dMi, mMi, FMi⟩ := W.dMixed.get X G
  have bMi : Binds K dMi ["draw"] [] := FMi.binds fun _ _ _ _ _ _ us hl => match us, hl with | [_], _ => rfl
  obtain ⟨fTa, dTa, mTa, FTa⟩ := W.dTake.get X G
  have bTa : Binds K dTa ["draw", "amount"] [] := FTa.binds fun _ _ _ _ _ _ us hl => match us, hl with | [_, _], _ => rfl
  obtain ⟨fPk, dPk, mPk, FPk⟩ := W.dPick.get X G
  have bPk : Binds K dPk ["draw", "some"] [] := FPk.binds fun _ _ _ _ _ _ us hl => match us, hl with | [_, _], _ => rfl
  obtain ⟨fSh, dSh, mSh, FSh⟩ := W.dShuffled.get X G
  have bSh : Binds K dSh ["draw", "some"] [] := FSh.binds fun _ _ _ _ _ _ us hl => match us, hl with | [_, _], _ => rfl
  obtain ⟨fLN, dLN, mLN, FLN⟩ := W.dLawNames.get X G
  have bLN : Binds K dLN ["draw", "many", "most_args"] [] := FLN.binds fun _ _ _ _ _ _ us hl => match us, hl with | [_, _, _], _ => rfl
  have gBe := Dk.ok_begun (P := P) (w := w) (mg := mg) (base := base) FBe (z W.zAbs)
  have gTa := Dk.ok_take (P := P) (w := w) (mg := mg) (base := base) FTa (z W.zInt) FMi bMi mMi
  have gPk := Dk.ok_pick FPk (z W.zLen) gTa FTa.kp bTa mTa
  have gSh := Dk.ok_shuffled FSh (z W.zLen) (z W.zList) gTa FTa.kp bTa mTa
  have gLN := ok_lawNames FLN (z W.zTup) (z W.zRng) gSh FSh.kp bSh mSh gTa FTa.kp bTa mTa gPk FPk.kp bPk mPk
  obtain ⟨fCa, dCa, mCa, FCa⟩ := W.dCaught.get X G
  have kbP : KBinds K dPlain ["thing"] ["thing"] (fun us ws => us ++ ws) (fun vs zs => vs ++ zs) := by
    obtain ⟨oc, od, kV, doc, pm, an, cdv, ct, osl, rfl, lk, hcd⟩ := FPlain.ex
    refine ⟨fun s us ws _ hl => ?_, fun r1 r2 => vals_app r1 r2⟩
    match us, ws, hl with
    | [], [_], _ => exact .of_eq rfl
    | [_], [], _ => exact .of_eq rfl
  have kbS : KBinds K dSort ["thing"] ["thing"] (fun us ws => us ++ ws) (fun vs zs => vs ++ zs) := by
    obtain ⟨oc, od, kV, doc, pm, an, cdv, ct, osl, rfl, lk, hcd⟩ := FSort.ex
    refine ⟨fun s us ws _ hl => ?_, fun r1 r2 => vals_app r1 r2⟩
    match us, ws, hl with
    | [], [_], _ => exact .of_eq rfl
    | [_], [], _ => exact .of_eq rfl
  refine ⟨cN, cS, cP, ⟨⟨_, _, mBe, FBe.kp, gBe, bBe⟩, ⟨_, _, mPk, FPk.kp, gPk, bPk⟩, ⟨_, _, mTa, FTa.kp, gTa, bTa⟩, ⟨_, _, mLN, FLN.kp, gLN, bLN⟩, ⟨_, _, ⟨mPlain, FPlain.kp, gPlain, bPlain⟩, kbP⟩, ⟨_, _, ⟨mSort, FSort.kp, gSort, bSort⟩, kbS⟩,
    ⟨_, _, mIT, FIT.kp, gIT, bIT⟩, ⟨_, _, mSO, FSO.kp, gSO, bSO⟩, ⟨cPi, _, _, PySem.W.mg_of X G nPi, MPi, ok_pieceInit FPi CK, bPi⟩, ⟨cFu, _, _, PySem.W.mg_of X G nFu, MFu, ok_funcInit FFu CK, bFu⟩,
    z W.zLen, z W.zMin, z W.zRng, z W.zTup, z W.zList, z W.zDict, z W.zIsi⟩, ?_⟩
  exact ⟨⟨_, _, FCa, mCa⟩, mP, mN, mS, PySem.W.exm_ref bP.1 bP.2 pF.ty bN, PySem.W.exm_ref bP.1 bP.2 pF.ty bS.2, nF'.exc ob, sF.exc ob, Ef.kit_self, Ef.kit_self, eN.noN, TB⟩
/-- law's promise at the head's heap -/
theorem lawAt {l : PySem.W.OpenLaw} {fa fL cL pT : Addr} (KX : K.In h) (G : h.Ns mainGlobals mg) (hfa : mg "law" = some (.ref fa)) (own : LamX.OwnTab K fa h) (W : WrE l.prog w K)
    {oc kV doc pm ct : Value} {od an dd : Option Addr} {osl sl : Array (Option Value)} {vs : Array Value} {file : Str} {tf tg tt : Tok} {flags text : Int} {inF : Bool}
    (aL : PySem.W.nsIn K mainGlobals "law" = some (some (.ref fL)))
    (lL : K.lookup fL = some ⟨oc, od, .func (PySem.W.fnOf "law" "law" (defArgs sLaw) (defBody sLaw) (defScope sLaw) .none kV doc pm an (.ref cL) ct), osl⟩) (cd : PySem.W.codeIn K (.ref cL) "law" = true) (kL : PySem.W.keepIn K (.ref fL) = true)
    (lc : K.lookup cL = some ⟨.type "code", dd, .fields vs, sl⟩) (v11 : vs[11]? = some (.ref pT)) (d11 : vs.getD 11 .none = .ref pT) (d18 : vs.getD 18 .none = .str file tf) (d7 : vs.getD 7 .none = .int flags tg) (d9 : vs.getD 9 .none = .bool inF) (d10 : vs.getD 10 .none = .int text tt)
    (ne : cL ≠ pT) (nT : K.lookup pT = none) : LamX.LawAtS l w K CX0 10 63 "script" mg fa h := by
  have e := hfa.symm.trans (PySem.W.mg_of KX G aL)
  cases e
  have F := fun_mk (st := sLaw) lL cd kL
  refine ⟨PySem.W.fnOf "law" "law" (defArgs sLaw) (defBody sLaw) (defScope sLaw) .none kV doc pm an (.ref cL) ct, [(cL, pT)], spLaw K pT, fun p hp => ?_, fun p hp => ?_, fun p hp => ?_, fun s u => .of_eq rfl, fun H a ns hl _ hH hS => ⟨a, ns, rfl, hS, hl, hH (cL, pT) (by simp), fun _ => rfl⟩, fun base KB GB TB => ?_⟩
  · rw [List.mem_singleton] at hp
    rw [hp]
    exact own cL pT _ _ _ _ _ _ lL rfl rfl lc v11
  · rw [List.mem_singleton] at hp
    rw [hp]
    exact nT
  · rw [List.mem_singleton] at hp
    rw [hp]
    exact ⟨_, vs, file, tf, flags, tg, inF, text, tt, KX _ _ lc, rfl, rfl, v11, d11, d18, d7, d9, d10, ne⟩
  · obtain ⟨cN, cS, cPE, GL, LE⟩ := law_of W KB GB (TB (cL, pT) (by simp))
    exact ok_law F rfl GL LE
/-- the errors' facts, gathered -/
theorem errs_mk {cP cN cS cT fN fT : Addr} (nP : PySem.W.nsIn K mainGlobals "PlayError" = some (some (.ref cP))) (nN : PySem.W.nsIn K mainGlobals "BadNumber" = some (some (.ref cN))) (nS : PySem.W.nsIn K mainGlobals "BadSort" = some (some (.ref cS))) (nT : PySem.W.nsIn K mainGlobals "BadTerm" = some (some (.ref cT)))
    (pP : Ef.PlayF K cP) (pN : Ef.ClsF K cP cN) (pS : Ef.ClsF K cP cS) (pT : Ef.ClsF K cP cT) (eN : Ef.ErrF P K cN fN "part") (eT : Ef.ErrF P K cT fT "at") (xS : PySem.W.excIn K cS veT "ValueError.__new__" = true) (kS : PySem.W.keepIn K (.ref cS) = true) (ne : cN ≠ cP ∧ cS ≠ cP ∧ cT ≠ cP) :
    ∀ (h : Heap) (mg : Str → Option Value), K.In h → h.Ns mainGlobals mg → ∃ cP cN cS cT fN fT, ErrE P K mg cP cN cS cT fN fT := fun h mg X G =>
  ⟨cP, cN, cS, cT, fN, fT, ⟨PySem.W.mg_of X G nP, PySem.W.mg_of X G nN, PySem.W.mg_of X G nS, PySem.W.mg_of X G nT, _, nP⟩, pP, pN, pS, pT, eN, eT, xS, kS, ne⟩
theorem hi_mk {cP : Addr} (nP : PySem.W.nsIn K mainGlobals "PlayError" = some (some (.ref cP))) (hi : PySem.W.findIn K (.ref cP) "__init__" = some (some (.builtin "ValueError.__init__"))) : ∀ cP, PySem.W.nsIn K mainGlobals "PlayError" = some (some (.ref cP)) → PySem.W.findIn K (.ref cP) "__init__" = some (some (.builtin "ValueError.__init__")) := fun c e => by
  rw [nP] at e
  cases e
  exact hi
theorem look_mk {C f : Addr} {oc : Value} {od an : Option Addr} {osl : Array (Option Value)} {kV doc pm cdv ct : Value} (a : PySem.W.nsIn K mainGlobals "Look" = some (some (.ref C))) (i : PySem.W.findIn K (.ref C) "__init__" = some (some (.ref f)))
    (l : K.lookup f = some ⟨oc, od, .func (PySem.W.fnOf "__init__" "Look.__init__" (defArgs sLookInit) (defBody sLookInit) (defScope sLookInit) .none kV doc pm an cdv ct), osl⟩) (c : PySem.W.codeIn K cdv "Look.__init__" = true) (k : PySem.W.keepIn K (.ref f) = true) (fn : PySem.W.isFn K (.ref f) = true) (mk : PySem.W.makesIn K C = true) (kp : PySem.W.keepIn K (.ref C) = true)
    (pg : PySem.W.plainGet K C Str.empty = true) (hd : PySem.W.hasDictIn K C = true) (po : PySem.W.plainOver K C = true) (sa : PySem.W.findIn K (.ref C) "__setattr__" = some (some (.builtin "object.__setattr__"))) (nS : PySem.W.findIn K (.ref C) "size" = some none) (nN : PySem.W.findIn K (.ref C) "nodes" = some none) :
    ∃ (C f : Addr) (fd : FuncData), PySem.W.nsIn K mainGlobals "Look" = some (some (.ref C)) ∧ Mk K C f ∧ Fun K "__init__" "Look.__init__" sLookInit f fd ∧ Cls K C ∧ NoAttr K C "size" ∧ NoAttr K C "nodes" :=
  ⟨C, f, _, a, ⟨mk, i, fn, kp⟩, fun_mk l c k, ⟨pg, hd, po, sa⟩, nS, nN⟩
theorem con_mk {x : Str} {u : Value} {R : Value → Prop} (a : PySem.W.nsIn K mainGlobals x = some (some u)) (r : R u) : ∃ u, PySem.W.nsIn K mainGlobals x = some (some u) ∧ R u := ⟨u, a, r⟩
theorem int_mk {x : Str} {i : Int} {t : Tok} (a : PySem.W.nsIn K mainGlobals x = some (some (.int i t))) : ∃ t, PySem.W.nsIn K mainGlobals x = some (some (.int i t)) := ⟨t, a⟩
theorem str_mk {x s : Str} {t : Tok} (a : PySem.W.nsIn K mainGlobals x = some (some (.str s t))) : ∃ t, PySem.W.nsIn K mainGlobals x = some (some (.str s t)) := ⟨t, a⟩
end
end Jd
open PySem PySem.W PyProof.Rows in
set_option maxRecDepth 100000 in
set_option maxHeartbeats 0 in
theorem PySem.Challenge.cw_playsalike_k01_sorts_and_names_judged_holds : PySem.Challenge.rw_playsalike_k01_sorts_and_names_judged.Holds := by
  w_on; o_law; k_head; (case hw => w_witness2)
  k_fill
  refine LamX.walk_ofOwn (l := PySem.Challenge.rw_playsalike_k01_sorts_and_names_judged) (n := 63) (k := 10) (x := "script") (CX := fun _ => L2.CX0) rfl (by decide) rfl ⟨rfl, by decide, by decide⟩ (by rfl) (fun w h Y => PySem.W.km_in_of Y) ?F (fun _ _ _ _ _ z => z)
  case F =>
    intro w mg fa h Y KX G hmg own
    refine' Jd.lawAt KX G hmg own ?W ?aL ?lL ?cd ?kL ?lc ?v11 ?d11 ?d18 ?d7 ?d9 ?d10 ?ne ?nT
    (case aL => k_is)
    (case lL => k_is)
    (case cd => k_is)
    (case kL => k_is)
    (case lc => k_is)
    (case v11 => rfl)
    (case d11 => rfl)
    (case d18 => rfl)
    (case d7 => rfl)
    (case d9 => rfl)
    (case d10 => rfl)
    (case ne => decide)
    (case nT => rfl)
    (case W =>
      refine' Jd.WrE.mk ?dNumber ?dWithin ?dWord ?dPair ?dChkSize ?dPlain ?dSort ?dNames ?dChkNames ?dPaths ?dNamesWithin ?dPartAlong ?dIsTerm ?dSortOf ?dChecked ?dSortAt ?dHasForm ?dUse ?dThing ?dWantedSorts ?dIsWanted ?dSortGiven ?dBegun ?dMixed ?dTake ?dPick ?dShuffled ?dCaught ?dLawNames ?cPiece ?cFunc ?cLook ?errs ?obn ?obt ?hi ?any_ ?top_ ?zIsi ?zLen ?zAll ?zInt ?zBool ?zStr ?zTup ?zDict ?zList ?zAbs ?zMin ?zRng ?zZip ?zEnum ?zSup ?plain ?signs_ ?mostN ?mostD ?mostM ?forms_ ?given_ ?parts_
      (case dNumber => refine' Wr.defE_mk ?a ?l ?c ?k; (case a => k_is); (case l => k_is); (case c => k_is); (case k => k_is))
      (case dWithin => refine' Wr.defE_mk ?a ?l ?c ?k; (case a => k_is); (case l => k_is); (case c => k_is); (case k => k_is))
      (case dWord => refine' Wr.defE_mk ?a ?l ?c ?k; (case a => k_is); (case l => k_is); (case c => k_is); (case k => k_is))
      (case dPair => refine' Wr.defE_mk ?a ?l ?c ?k; (case a => k_is); (case l => k_is); (case c => k_is); (case k => k_is))
      (case dChkSize => refine' Wr.defE_mk ?a ?l ?c ?k; (case a => k_is); (case l => k_is); (case c => k_is); (case k => k_is))
      (case dPlain => refine' Wr.defE_mk ?a ?l ?c ?k; (case a => k_is); (case l => k_is); (case c => k_is); (case k => k_is))
      (case dSort => refine' Wr.defE_mk ?a ?l ?c ?k; (case a => k_is); (case l => k_is); (case c => k_is); (case k => k_is))
      (case dNames => refine' Wr.defE_mk ?a ?l ?c ?k; (case a => k_is); (case l => k_is); (case c => k_is); (case k => k_is))
      (case dChkNames => refine' Wr.defE_mk ?a ?l ?c ?k; (case a => k_is); (case l => k_is); (case c => k_is); (case k => k_is))
      (case dPaths => refine' Wr.defE_mk ?a ?l ?c ?k; (case a => k_is); (case l => k_is); (case c => k_is); (case k => k_is))
      (case dNamesWithin => refine' Wr.defE_mk ?a ?l ?c ?k; (case a => k_is); (case l => k_is); (case c => k_is); (case k => k_is))
      (case dPartAlong => refine' Wr.defE_mk ?a ?l ?c ?k; (case a => k_is); (case l => k_is); (case c => k_is); (case k => k_is))
      (case dIsTerm => refine' Wr.defE_mk ?a ?l ?c ?k; (case a => k_is); (case l => k_is); (case c => k_is); (case k => k_is))
      (case dSortOf => refine' Wr.defE_mk ?a ?l ?c ?k; (case a => k_is); (case l => k_is); (case c => k_is); (case k => k_is))
      (case dChecked => refine' Wr.defE_mk ?a ?l ?c ?k; (case a => k_is); (case l => k_is); (case c => k_is); (case k => k_is))
      (case dSortAt => refine' Wr.defE_mk ?a ?l ?c ?k; (case a => k_is); (case l => k_is); (case c => k_is); (case k => k_is))
      (case dHasForm => refine' Wr.defE_mk ?a ?l ?c ?k; (case a => k_is); (case l => k_is); (case c => k_is); (case k => k_is))
      (case dUse => refine' Wr.defE_mk ?a ?l ?c ?k; (case a => k_is); (case l => k_is); (case c => k_is); (case k => k_is))
      (case dThing => refine' Wr.defE_mk ?a ?l ?c ?k; (case a => k_is); (case l => k_is); (case c => k_is); (case k => k_is))
      (case dWantedSorts => refine' Wr.defE_mk ?a ?l ?c ?k; (case a => k_is); (case l => k_is); (case c => k_is); (case k => k_is))
      (case dIsWanted => refine' Wr.defE_mk ?a ?l ?c ?k; (case a => k_is); (case l => k_is); (case c => k_is); (case k => k_is))
      (case dSortGiven => refine' Wr.defE_mk ?a ?l ?c ?k; (case a => k_is); (case l => k_is); (case c => k_is); (case k => k_is))
      (case dBegun => refine' Wr.defE_mk ?a ?l ?c ?k; (case a => k_is); (case l => k_is); (case c => k_is); (case k => k_is))
      (case dMixed => refine' Wr.defE_mk ?a ?l ?c ?k; (case a => k_is); (case l => k_is); (case c => k_is); (case k => k_is))
      (case dTake => refine' Wr.defE_mk ?a ?l ?c ?k; (case a => k_is); (case l => k_is); (case c => k_is); (case k => k_is))
      (case dPick => refine' Wr.defE_mk ?a ?l ?c ?k; (case a => k_is); (case l => k_is); (case c => k_is); (case k => k_is))
      (case dShuffled => refine' Wr.defE_mk ?a ?l ?c ?k; (case a => k_is); (case l => k_is); (case c => k_is); (case k => k_is))
      (case dCaught => refine' Wr.defE_mk ?a ?l ?c ?k; (case a => k_is); (case l => k_is); (case c => k_is); (case k => k_is))
      (case dLawNames => refine' Wr.defE_mk ?a ?l ?c ?k; (case a => k_is); (case l => k_is); (case c => k_is); (case k => k_is))
      (case cPiece => refine' Wr.clsE_mk ?a ?i ?l ?c ?k ?fn ?mk ?kp; (case a => k_is); (case i => k_is); (case l => k_is); (case c => k_is); (case k => k_is); (case fn => k_is); (case mk => k_is); (case kp => k_is))
      (case cFunc => refine' Wr.clsE_mk ?a ?i ?l ?c ?k ?fn ?mk ?kp; (case a => k_is); (case i => k_is); (case l => k_is); (case c => k_is); (case k => k_is); (case fn => k_is); (case mk => k_is); (case kp => k_is))
      (case cLook => refine' Jd.look_mk ?a ?i ?l ?c ?k ?fn ?mk ?kp ?pg ?hd ?po ?sa ?nS ?nN; (case a => k_is); (case i => k_is); (case l => k_is); (case c => k_is); (case k => k_is); (case fn => k_is); (case mk => k_is); (case kp => k_is); (case pg => k_is); (case hd => k_is); (case po => k_is); (case sa => k_is); (case nS => k_is); (case nN => k_is))
      (case errs => refine' Jd.errs_mk ?nP ?nN ?nS ?nT ?pP ?pN ?pS ?pT ?eN ?eT ?xS ?kS ?ne; (case nP => k_is); (case nN => k_is); (case nS => k_is); (case nT => k_is); (case pP => refine' Ef.playF_mk ?e ?m ?d ?t ?a ?b ?c; (case e => k_is); (case m => rfl); (case d => rfl); (case t => k_is); (case a => k_is); (case b => k_is); (case c => k_is)); (case pN => refine' Ef.clsF_mk ?e ?m ?d ?t ?a ?b ?c; (case e => k_is); (case m => rfl); (case d => rfl); (case t => k_is); (case a => k_is); (case b => k_is); (case c => k_is)); (case pS => refine' Ef.clsF_mk ?e ?m ?d ?t ?a ?b ?c; (case e => k_is); (case m => rfl); (case d => rfl); (case t => k_is); (case a => k_is); (case b => k_is); (case c => k_is)); (case pT => refine' Ef.clsF_mk ?e ?m ?d ?t ?a ?b ?c; (case e => k_is); (case m => rfl); (case d => rfl); (case t => k_is); (case a => k_is); (case b => k_is); (case c => k_is)); (case eN => refine' Ef.errF_mk ?xL ?rf ?sa ?eC ?tC ?kC ?iC ?tI ?noN ?l ?cI ?lc ?ld ?v2 ?fl ?ln ?po; (case xL => k_is); (case rf => decide +kernel); (case sa => k_is); (case eC => k_is); (case tC => k_is); (case kC => k_is); (case iC => k_is); (case tI => k_is); (case noN => k_is); (case l => k_is); (case cI => k_is); (case lc => k_is); (case ld => k_is); (case v2 => rfl); (case fl => decide +kernel); (case ln => decide +kernel); (case po => exact Er.pn_part)); (case eT => refine' Ef.errF_mk ?xL ?rf ?sa ?eC ?tC ?kC ?iC ?tI ?noN ?l ?cI ?lc ?ld ?v2 ?fl ?ln ?po; (case xL => k_is); (case rf => decide +kernel); (case sa => k_is); (case eC => k_is); (case tC => k_is); (case kC => k_is); (case iC => k_is); (case tI => k_is); (case noN => k_is); (case l => k_is); (case cI => k_is); (case lc => k_is); (case ld => k_is); (case v2 => rfl); (case fl => decide +kernel); (case ln => decide +kernel); (case po => exact Er.pn_at)); (case xS => k_exc); (case kS => k_is); (case ne => decide))
      (case obn => k_is)
      (case obt => k_is)
      (case hi => refine' Jd.hi_mk ?nP ?hi; (case nP => k_is); (case hi => k_is))
      (case any_ => k_is)
      (case top_ => decide +kernel)
      (case zIsi => k_is)
      (case zLen => k_is)
      (case zAll => k_is)
      (case zInt => k_is)
      (case zBool => k_is)
      (case zStr => k_is)
      (case zTup => k_is)
      (case zDict => k_is)
      (case zList => k_is)
      (case zAbs => k_is)
      (case zMin => k_is)
      (case zRng => k_is)
      (case zZip => k_is)
      (case zEnum => k_is)
      (case zSup => k_is)
      (case plain => refine' Jd.con_mk ?a ?r; (case a => k_is); (case r => refine' Wr.tupE_mk ?l ?z ?v; (case l => k_is); (case z => decide); (case v => repeat (first | exact .nil | refine' .cons ⟨_, rfl⟩ ?_))))
      (case signs_ => refine' Jd.str_mk ?a; (case a => k_is))
      (case mostN => refine' Jd.int_mk ?a; (case a => k_is))
      (case mostD => refine' Jd.int_mk ?a; (case a => k_is))
      (case mostM => refine' Jd.int_mk ?a; (case a => k_is))
      (case forms_ => refine' Wr.dictE_mk ?a ?l ?k ?o ?r; (case a => k_is); (case l => k_is); (case k => k_keys); (case o => decide); (case r => refine' .cons ?_ (.cons ?_ (.cons ?_ (.cons ?_ (.cons ?_ (.cons ?_ (.cons ?_ (.cons ?_ (.cons ?_ (.cons ?_ (.cons ?_ (.cons ?_ (.cons ?_ (.cons ?_ (.cons ?_ (.cons ?_ (.nil)))))))))))))))); all_goals (refine' Wr.tupE_mk ?l ?z ?v; (case l => k_is); (case z => decide); (case v => repeat (first | exact .nil | refine' .cons ⟨_, rfl⟩ ?_)))))
      (case given_ => refine' Wr.dictE_mk ?a ?l ?k ?o ?r; (case a => k_is); (case l => k_is); (case k => k_keys); (case o => decide); (case r => refine' .cons ?_ (.cons ?_ (.cons ?_ (.cons ?_ (.cons ?_ (.cons ?_ (.cons ?_ (.cons ?_ (.cons ?_ (.cons ?_ (.cons ?_ (.cons ?_ (.nil)))))))))))); all_goals (exact ⟨_, rfl⟩)))
      (case parts_ => refine' Wr.dictE_mk ?a ?l ?k ?o ?r; (case a => k_is); (case l => k_is); (case k => k_keys); (case o => decide); (case r => refine' .cons ?_ (.cons ?_ (.cons ?_ (.cons ?_ (.cons ?_ (.cons ?_ (.cons ?_ (.cons ?_ (.cons ?_ (.cons ?_ (.cons ?_ (.cons ?_ (.cons ?_ (.cons ?_ (.cons ?_ (.cons ?_ (.nil)))))))))))))))); all_goals (refine' Wr.tupE_mk ?l ?z ?v; (case l => k_is); (case z => decide); (case v => repeat (first | exact .nil | refine' .cons ⟨_, rfl⟩ ?_))))))
