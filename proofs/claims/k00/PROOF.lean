import PyProof.Rows.All
import Wide.All
import OpenK.AllK
import Wide.FinOn
import KE.KExcSuper
import HandS.ForMost
import HandS.Exc
import HandS.ExcValue
import HandS.ExcIs
import HandS.ExcInit
import HandS.IsInst
import HandS.MakeKw
import HandS.HeadWalk
import HandS.MakeKwOnly
import KE.KExcIs
import PyProof.ReprReads
import PyProof.ReprRoads
import HandS.Ends
import HandS.Wide
import PySem.Challenge.RW_playsalike_k00_errors_of_all_parts
import HandS.Walk
set_option Elab.async false
set_option linter.all false
set_option maxRecDepth 100000
set_option maxHeartbeats 4000000
namespace Er
open PySem PySem.W PySem.Calls PyProof.Rows PySem.Spec PySem.HandSPX

/-! an own error: def __init__(self, pn): super().__init__(msg); self.pn = pn -/
def eArgs (pn : Str) (p1 p2 : Pos) : Arguments :=
  { posonlyargs := [], args := [{ arg := "self", annotation := none, pos := p1 }, { arg := pn, annotation := none, pos := p2 }],
    vararg := none, kwonlyargs := [], kw_defaults := [], kwarg := none, defaults := [] }
def eBody (pn msg : Str) (k0 : Nat) (q0 q1 q2 q3 q4 q5 q6 q7 q8 q9 : Pos) : List Stmt :=
  [.Expr (.Call (.Attribute (.Call (.Name "super" q0) [] [] q1) "__init__" q2) [.Constant (.str msg) k0 q3] [] q4) q5,
   .Assign [.Attribute (.Name "self" q6) pn q7] (.Name pn q8) q9]
def eScope (pn : Str) : Scope :=
  { kind := .function, names := [(PySem.Str.ofString "self", .local), (pn, .local), (PySem.Str.ofString "__class__", .free), (PySem.Str.ofString "super", .globalImplicit)],
    isGenerator := false, isCoroutine := false, more := [] }
/-- a parameter's word that meets none of the other names -/
structure PnOk (pn : Str) : Prop where
  s : (pn == ("self" : Str)) = false
  c : (pn == ("__class__" : Str)) = false
  u : (pn == ("super" : Str)) = false
  d : (pn == ("__debug__" : Str)) = false
  bp : ∀ (qual : Str) (body : List Stmt) (sc : Scope) (cl : List (Str × Addr)) (kV doc pm : Value) (an : Option Addr) (cdv ct : Value) (p1 p2 : Pos) (x : Addr) (v : Value),
    bindArgs (fnX "__init__" qual (eArgs pn p1 p2) body sc cl .none kV doc pm an cdv ct) ⟨[.ref x, v], []⟩ = pure ([("self", .ref x), (pn, v)] : List (Str × Value))
  bk : ∀ (qual : Str) (body : List Stmt) (sc : Scope) (cl : List (Str × Addr)) (kV doc pm : Value) (an : Option Addr) (cdv ct : Value) (p1 p2 : Pos) (x : Addr) (v : Value),
    bindArgs (fnX "__init__" qual (eArgs pn p1 p2) body sc cl .none kV doc pm an cdv ct) ⟨[.ref x], [(pn, v)]⟩ = pure ([("self", .ref x), (pn, v)] : List (Str × Value))
/-- what the written part says of such an error's class at C, of its __init__ at fI -/
structure ErrTxt (prog : Program) (K : Frag) (mg : Str → Option Value) (C fI : Addr) (pn : Str) : Prop where
  oex : L2.OexC K C
  iC : findIn K (.ref C) "__init__" = some (some (.ref fI))
  tI : typeIn K (.ref fI) = some (.type "function")
  noN : findIn K (.ref C) pn = some none
  fn : ∃ (oc : Value) (od : Option Addr) (kV doc pm ct : Value) (an : Option Addr) (osl : Array (Option Value)) (cc cda : Addr) (qual msg : Str) (k0 : Nat) (p1 p2 q0 q1 q2 q3 q4 q5 q6 q7 q8 q9 : Pos)
      (cl ccl : Value) (cld cdd : Option Addr) (csl ccs : Array (Option Value)) (vs : Array Value) (file : Str) (tf : Tok),
    K.lookup fI = some ⟨oc, od, .func (fnX "__init__" qual (eArgs pn p1 p2) (eBody pn msg k0 q0 q1 q2 q3 q4 q5 q6 q7 q8 q9) (eScope pn) [("__class__", cc)] .none kV doc pm an (.ref cda) ct), osl⟩ ∧
    codeIn K (.ref cda) qual = true ∧ K.lookup cc = some ⟨cl, cld, .cell (some (.ref C)), csl⟩ ∧ K.lookup cda = some ⟨ccl, cdd, .fields vs, ccs⟩ ∧ vs[2]? = some (.str file tf) ∧ ((prog.main.file : Str) == file) = true ∧ (q2.endLine == q4.line) = true
  any : nsIn K cStatics "thirdparty.any" = some none
  sup : ks_superIn K C C "__init__" = some (some (.builtin "ValueError.__init__"))
  sub : mroIn K C (.ref C) = some true
  subV : subIn K (.ref C) (.type "ValueError") = some true
  mgS : mg "super" = none
  top : (prog.main.scope.names.lookup ("super" : Str)).isSome = false
  pn : PnOk pn
theorem pn_part : PnOk "part" := ⟨by decide +kernel, by decide +kernel, by decide +kernel, by decide +kernel, by intros; rfl, by intros; rfl⟩
theorem pn_at : PnOk "at" := ⟨by decide +kernel, by decide +kernel, by decide +kernel, by decide +kernel, by intros; rfl, by intros; rfl⟩
theorem pn_number : PnOk "number" := ⟨by decide +kernel, by decide +kernel, by decide +kernel, by decide +kernel, by intros; rfl, by intros; rfl⟩
theorem pn_why : PnOk "why" := ⟨by decide +kernel, by decide +kernel, by decide +kernel, by decide +kernel, by intros; rfl, by intros; rfl⟩
theorem pn_most : PnOk "most" := ⟨by decide +kernel, by decide +kernel, by decide +kernel, by decide +kernel, by intros; rfl, by intros; rfl⟩
section
variable {prog : Program} {w : World} {A : Around} {R : Result → Shared → Prop} {s : Shared} {K : Frag} {mg : Str → Option Value} {C fI : Addr} {pn : Str} {base : Heap}
/-- what __init__ leaves of a fresh error at x -/
structure InitEnd (h h' : Heap) (x C dx t1 : Addr) (pn : Str) (v : Value) : Prop where
  keep : ∀ b o, b ≠ x → h.get? b = some o → h'.get? b = some o
  obj : h'.get? x = some (excObj C t1 (some dx) .none)
  big : h.objs.size ≤ dx
  ne : dx ≠ x
  ns : h'.Ns1 dx (fun y => if y = pn then some v else none)
theorem err_init (T : ErrTxt prog K mg C fI pn) (Md : L2.Mod K mg base) (kb : ∀ b o, base.get? b = some o → s.heap.get? b = some o) {x t0 : Addr} {v : Value} {args : Args}
    (hx : s.heap.get? x = some (excObj C t0 none .none)) (hnx : K.lookup x = none) (hroom : A.depth < recursionLimit)
    (hbind : ∀ fd : FuncData, (∃ qual body sc cl kV doc pm an cdv ct p1 p2, fd = fnX "__init__" qual (eArgs pn p1 p2) body sc cl .none kV doc pm an cdv ct) → BindsTo s fd args [("self", .ref x), (pn, v)])
    (hq : ∀ h' tk dx t1, InitEnd s.heap h' x C dx t1 pn v → R (.ok (.ret .none)) { s with heap := h', toks := tk }) :
    codeAny (model prog w) A (.call (.ref fI) args) R s := by
  obtain ⟨oc, od, kV, doc, pm, ct, an, osl, cc, cda, qual, msg, k0, p1, p2, q0, q1, q2, q3, q4, q5, q6, q7, q8, q9, cl, ccl, cld, cdd, csl, ccs, vs, file, tf, ho, hcd, hcc, hco, hvs, hfile, hline⟩ := T.fn
  have X : K.In s.heap := Md.kin.keeps kb
  have lk1 : (eScope pn).names.lookup ("self" : Str) = some .local := by simp [eScope, List.lookup]
  have lk2 : (eScope pn).names.lookup pn = some .local := by simp [eScope, List.lookup, T.pn.s]
  have nc1 : (("__class__" : Str) == pn) = false := by have := T.pn.c; simp at this ⊢; exact fun e => this e.symm
  have nc2 : (("super" : Str) == pn) = false := by have := T.pn.u; simp at this ⊢; exact fun e => this e.symm
  have lk3 : (eScope pn).names.lookup ("__class__" : Str) = some .free := by
    simp only [eScope, List.lookup, nc1, show (("__class__" : Str) == PySem.Str.ofString "self") = false by decide +kernel, beq_self_eq_true]
  have lk4 : (eScope pn).names.lookup ("super" : Str) = some .globalImplicit := by
    simp only [eScope, List.lookup, nc2, show (("super" : Str) == PySem.Str.ofString "self") = false by decide +kernel, show (("super" : Str) == PySem.Str.ofString "__class__") = false by decide +kernel, beq_self_eq_true]
  have pl : ∀ u : Value, ([("self", Value.ref x), (pn, u)] : List (Str × Value)).reverse.lookup ("self" : Str) = some (.ref x) := fun u => by
    have e : (("self" : Str) == pn) = false := by have := T.pn.s; simp at this ⊢; exact fun e => this e.symm
    simp [List.lookup, e]
  have pv : ∀ u : Value, ([("self", Value.ref x), (pn, u)] : List (Str × Value)).reverse.lookup pn = some u := fun u => by
    simp [List.lookup]
  obtain ⟨mb, hmb, hmb2⟩ := Md.blt
  obtain ⟨nm, qq, N, bs, bm, sn, sub, ab, col, dd, c0, c1, c2, c3, c5, hC, hbm⟩ := T.oex.cls
  have hcl : clsIn K C = some { name := nm, bases := bs, mro := .ref C :: bm, ns := N, qualname := qq, hasDict := true, slotNames := sn, subclasses := sub, abstract := ab, collection := col, hasDel := false } := by unfold clsIn; rw [hC] <;> rfl
  refine ks_codeAny_call_defAt (binds := [("self", .ref x), (pn, v)]) (body := eBody pn msg k0 q0 q1 q2 q3 q4 q5 q6 q7 q8 q9) hroom (X _ _ ho) rfl (Md.nolimit.keeps kb) (codeRec_of X hcd) rfl (hbind _ ⟨_, _, _, _, _, _, _, _, _, _, _, _, rfl⟩) ?_ ?_ (fun h₁ hns k₁ => ?_) rfl rfl rfl
  · intro y hy
    simp only [eScope, List.mem_cons, List.not_mem_nil, or_false] at hy
    rcases hy with rfl | rfl | rfl | rfl <;> simp
  · intro y hy
    simp only [List.mem_cons, List.not_mem_nil, or_false] at hy
    rcases hy with rfl | rfl
    · exact lk1
    · exact lk2
  have hx₁ := k₁ _ _ hx
  have X₁ : K.In h₁ := X.keeps k₁
  have kb₁ : ∀ b o, base.get? b = some o → h₁.get? b = some o := fun b o e => k₁ b o (kb b o e)
  have he : ∀ env : Env, eval (.Call (.Attribute (.Call (.Name "super" q0) [] [] q1) "__init__" q2) [.Constant (.str msg) k0 q3] [] q4) env = (do
      let ov ← attributeBase (.Call (.Name "super" q0) [] [] q1) "__init__" env (eval (.Call (.Name "super" q0) [] [] q1) env)
      standAt q2.atName
      let (f, first) ← holding [ov] (getMethod ov "__init__" (L2.plainOf (.Call (.Name "super" q0) [] [] q1) env))
      callWith q4 f first (backTo q4 (starEach [.Constant (.str msg) k0 q3] env)) []) := fun env => by
    rw [arm_eval_Call]
    exact bind_congr fun ov => bind_congr fun _ => L2.mcall_line rfl hline
  refine ks_wpAt_execs_cons (ks_wpAt_Expr_any (ks_wpAt_MethodCall (ks_wpAt_super_base lk4 lk3 (by decide +kernel) rfl (X₁ _ _ ho) rfl rfl rfl (X₁ _ _ hco) rfl hvs hfile T.top ?_) (he _)))
  refine ks_loadName_global rfl lk4 (loadGlobal_builtin (Md.glob.keeps kb₁) T.mgS (hmb.keeps kb₁) ((hmb2 _ (by decide)).trans PyProof.Rows.Boot.«super») ⟨rfl, ?_⟩)
  refine wpAny_loadName_free rfl lk3 rfl ⟨_, X₁ _ _ hcc, rfl⟩ ?_
  refine wpAny_loadName_local rfl lk1 hns (pl v) ?_
  refine ks_wpAny_isType_cls (X₁ _ _ hC) rfl ⟨rfl, ?_⟩
  refine ks_wpAny_call_super (X₁ _ _ hC) rfl hx₁ rfl (fun c e => nomatch e) (looks_mroIn X₁ T.sub) (fun h₂ e₂ k₂ => ?_)
  have X₂ : K.In h₂ := X₁.keeps k₂
  have hx₂ := k₂ _ _ hx₁
  have I₂ : InstAt h₂ x (excObj C t0 none .none) C none := ⟨hx₂, rfl, rfl, trivial⟩
  have hsup : alongIn K "__init__" (((Value.ref C :: bm).dropWhile (· != .ref C)).drop 1) = some (some (.builtin "ValueError.__init__")) := by
    have e := T.sup
    unfold ks_superIn at e
    rw [hcl] at e
    exact e
  refine kxs_getMethod kxs_ValueError e₂ (looks_opaque X₂ T.any) (l₀ := .ref C :: bm) (fun A Q E s k q => wpAny_bind ((looks_clsIn X₂ hcl) A _ E s k (wpAny_pure q))) rfl X₂ hsup (I₂.type.andThen (looks_subIn X₂ T.subV)) (ks_ne X₂ I₂ hcl) (by decide +kernel) ?_
  have mw₃ : (h₂.push (kxs_mw "ValueError.__init__" x)).get? h₂.objs.size = some (kxs_mw "ValueError.__init__" x) := Heap.get?_push_at rfl rfl
  have k₃ : ∀ b o, h₂.get? b = some o → (h₂.push (kxs_mw "ValueError.__init__" x)).get? b = some o := fun b o e => Heap.get?_push_of_some _ e
  have hx₃ := k₃ _ _ hx₂
  have hC₃ := k₃ _ _ (X₂ _ _ hC)
  generalize h₂.push (kxs_mw "ValueError.__init__" x) = h₃ at mw₃ k₃ hx₃ hC₃ ⊢
  refine kxs_callWith (i := "ValueError.__init__") (x := x) (by rfl) (evalArgs_plain ?_)
  refine Calls.spliced_cons (Calls.Constant_str (k := k0) (pos := q3) (Calls.spliced_nil ⟨mw₃, ?_⟩))
  -- the bound __init__ is called: the args are laid anew
  refine wpAny_call (codeAny_of_tree ?_)
  show wpAny _ _ (callAny (.ref h₂.objs.size) _) _ _ _
  simp only [callAny]
  refine wpAny_bind (wpAny_load mw₃ ?_)
  simp only [kxs_mw, show (Value.type "method-wrapper" == Value.type "method" || Value.type "method-wrapper" == Value.type "builtin_function_or_method" || Value.type "method-wrapper" == Value.type "method-wrapper") = true by decide, if_true]
  refine KFB.if_so (by decide) ?_
  refine wpAny_bind (check_bound_init F.excBase_ValueError.toExcCallFacts hC₃ hx₃ rfl ?_)
  refine wpAny_bind (wpAny_pure (wpAny_pure ?_))
  refine ⟨plainId_quiet F.excBase_ValueError.init.plain _, codeAny_builtin F.excBase_ValueError.initEntry ?_⟩
  refine exc_init_tree (cls := .ref C) (t0 := t0) (dv := none) (c2 := .none) (c3 := .none) (b4 := .bool false) hx₃ (by show 1 ≤ sizeLine; rw [sizeLine_eq]; omega) (fun h₄ k₄ hx₄ _ => ?_)
  -- self.pn = pn
  have xL : s.heap.objs.size ≠ x := Nat.ne_of_gt (Heap.lt_size hx)
  have k₁₄ : ∀ b o, b ≠ x → h₁.get? b = some o → h₄.get? b = some o := fun b o hb e => k₄ b o hb (k₃ b o (k₂ b o e))
  have X₄ : K.In h₄ := fun b o e => k₁₄ b o (fun z => by rw [z, hnx] at e; cases e) (X₁ b o e)
  have hns₄ : h₄.Ns s.heap.objs.size (fun y => ([("self", Value.ref x), (pn, v)] : List (Str × Value)).reverse.lookup y) := by
    obtain ⟨oL, es, ep, hL, r⟩ := hns
    exact ⟨oL, es, ep, k₁₄ _ _ xL hL, r⟩
  show _root_.PySem.wpAt _ _ _ (execs [.Assign [.Attribute (.Name "self" q6) pn q7] (.Name pn q8) q9] _) _ _ _
  refine wpAt_of_wpAny (wpAny_execs_cons (plainObj_wpAny_Assign_Attribute ?_))
  refine wpAny_Name (wpAny_loadName_local rfl lk2 hns₄ (pv v) ?_) T.pn.d
  refine wpAny_Name (wpAny_loadName_local rfl lk1 hns₄ (pl v) ?_) (by decide)
  refine set_plain X₄ (ox := excObj C h₃.objs.size none .none) (od := none) ⟨hx₄, rfl, rfl, trivial⟩ T.oex.sa ?_
  refine exc_osa X₄ hx₄ hcl (show refsVE (.ref C :: bm) = true from hbm) rfl T.noN (fun h₅ tk₅ dx k₅ dn dne hx₅ hn₅ => ?_)
  show wpAny _ _ (execs _ _) _ _ _
  have hLt : s.heap.objs.size < h₄.objs.size := hns₄.lt
  exact wpAny_execs_nil (hq h₅ tk₅ dx h₃.objs.size ⟨fun b o hb e => k₅ b o hb (k₁₄ b o hb (k₁ b o e)), hx₅, Nat.le_of_lt (Nat.lt_of_lt_of_le hLt dn), dne, hn₅⟩)
end
end Er
namespace Er
open PySem PySem.W PySem.HandSPX
section
variable {M : Model} {A : Around} {E : Value → Shared → Prop} {h : Heap} {g : Array GenState} {d : Drawn} {t : Nat} {os : OsState}
variable {nm q : Str} {C N : Addr} {bs bm bmB : List Value} {hdct : Bool} {sn : List Str} {sub : List Value} {ab : Bool} {col : Option Bool} {dd : Option Addr} {k0 k1 k2 k3 k5 : Option Value} {B newId initId : String}
/-- a class of the program over a built-in error: its __new__ is asked with keywords too -/
theorem ask_new (FB : ExcBaseFacts B newId initId bmB) (same : ∀ X : String, bm.contains (.type X) = bmB.contains (.type X)) {rest : List Value} {kw : List (Str × Value)} {Q : Unit → Shared → Prop}
    (hC : h.get? C = some (excClassObj nm q C N bs bm hdct sn sub ab col dd k0 k1 k2 k3 k5 newId)) (go : Q () ⟨h, g, d, t, os⟩) :
    wpAny M A (checkBuiltinCall newId ⟨.ref C :: rest, kw⟩) Q E ⟨h, g, d, t, os⟩ := by
  have isB : (Value.ref C :: bm).contains (.type B) = true := by rw [List.contains_cons, same, FB.hasB, Bool.or_true]
  have star := FB.noStar
  simp only [checkBuiltinCall, FB.newKind, FB.newSplit, FB.newRow]
  repeat (first
    | refine wpAny_loadPart_at hC ?_
    | (refine wpAny_isSubtype_exc hC ?_; rw [isB])
    | refine wpAny_staticBase_exc hC ?_
    | refine wpAny_madeBy_exc hC ?_
    | simp only [bne_self_eq_false, Bool.false_eq_true, if_false]
    | wp_step)
  exact go
end
section
variable {prog : Program} {w : World} {A : Around} {E : Value → Shared → Prop} {R : Result → Shared → Prop} {h : Heap} {g : Array GenState} {d : Drawn} {t : Nat} {os : OsState}
variable {nm q : Str} {C N : Addr} {bs bm bmB : List Value} {hdct : Bool} {sn : List Str} {sub : List Value} {ab : Bool} {col : Option Bool} {dd : Option Addr} {k0 k1 k2 k3 k5 : Option Value} {B newId initId : String}
/-- what its __new__ makes: the tuple of what is handed in by position, and the object -/
theorem run_new (FB : ExcBaseFacts B newId initId bmB) (same : ∀ X : String, bm.contains (.type X) = bmB.contains (.type X)) {rest : List Value} {kw : List (Str × Value)}
    (hC : h.get? C = some (excClassObj nm q C N bs bm hdct sn sub ab col dd k0 k1 k2 k3 k5 newId)) (small : rest.length ≤ sizeLine)
    (go : R (.ok (.ret (.ref (h.objs.size + 1)))) ⟨(h.push (kdv_tup rest)).push (excO C h.objs.size), g, d, t, os⟩) :
    codeAny (model prog w) A (.builtin newId ⟨.ref C :: rest, kw⟩) R ⟨h, g, d, t, os⟩ := by
  have fin := FB.ends
  have isB : (Value.ref C :: bm).contains (.type B) = true := by rw [List.contains_cons, same, FB.hasB, Bool.or_true]
  have noA : (Value.ref C :: bm).contains (.type "AttributeError") = false := by rw [List.contains_cons, same, FB.noAttr]; rfl
  have noN : (Value.ref C :: bm).contains (.type "NameError") = false := by rw [List.contains_cons, same, FB.noName]; rfl
  refine codeAny_builtinAt FB.entry ?_
  unfold Builtin.«BaseException.__new__»
  refine wpAt_bind ?_
  refine wpAt_bind (wpAt_stack fun p below => wpAt_of_wpAny ?_)
  wp_walk
  refine wpAt_of_wpAny ?_
  rw [FB.owner]
  repeat (first
    | with_reducible refine wpAny_madeHere_exc FB.canon hC ?_
    | with_reducible refine wpAny_loadPart_at hC ?_
    | (with_reducible refine wpAny_isSubtype_exc hC ?_; first | rw [isB] | rw [noA] | rw [noN])
    | wp_step)
  show R _ _
  rw [Heap.size_push]
  exact go
/-- type.__call__ on such a class with an __init__ of its own -/
theorem run_type_call (FB : ExcBaseFacts B newId initId bmB) (same : ∀ X : String, bm.contains (.type X) = bmB.contains (.type X)) {rest : List Value} {kw : List (Str × Value)} {fI : Addr} {Q : Fin → Shared → Prop}
    (hC : h.get? C = some (excClassObj nm q C N bs bm hdct sn sub ab col dd k0 k1 k2 k3 k5 newId)) (hi : Looks (model prog w) h (typeLookup (.ref C) "__init__") (some (.ref fI)))
    (hb : ∀ self, Looks (model prog w) h (bindSpecial (.ref fI) self) (.ref fI, [self])) (small : rest.length ≤ sizeLine)
    (go : codeAny (model prog w) A (.call (.ref fI) ⟨.ref (h.objs.size + 1) :: rest, kw⟩)
      (fun r s' => match r with | .ok (.ret v) => v = .none ∧ Q (.done (.ret (.ref (h.objs.size + 1)))) s' | .ok _ => False | .error e => E e s')
      ⟨(h.push (kdv_tup rest)).push (excO C h.objs.size), g, d, t, os⟩) :
    wpAny (model prog w) A (Builtin.«type.__call__» ⟨.ref C :: rest, kw⟩) Q E ⟨h, g, d, t, os⟩ := by
  repeat (first
    | with_reducible refine wpAny_loadPart_at hC ?_
    | with_reducible refine wpAny_madeBy_exc hC ?_
    | wp_step)
  refine codeAny_call_builtin_code (Code.quiet_builtin _ FB.quiet) (ask_new FB same hC (run_new FB same hC small ?_))
  have up : ∀ b o, h.get? b = some o → ((h.push (kdv_tup rest)).push (excO C h.objs.size)).get? b = some o := fun b o e =>
    Heap.get?_push_of_some _ (Heap.get?_push_of_some _ e)
  have atC := up _ _ hC
  have atE : ((h.push (kdv_tup rest)).push (excO C h.objs.size)).get? (h.objs.size + 1) = some (excO C h.objs.size) := by heap_get
  have own : (Value.ref C :: bm).contains (.ref C) = true := by simp
  have hi₁ := hi.keeps up
  have hb₁ := (hb (.ref (h.objs.size + 1))).keeps up
  show wpAny _ _ _ _ _ _
  unfold isInstance
  repeat (first
    | with_reducible refine wpAny_loadPart_at atE ?_
    | (with_reducible refine wpAny_isSubtype_exc atC ?_; rw [own])
    | wp_step)
  show wpAny _ _ (typeLookup (.ref C) _) _ _ _
  refine hi₁.at (wpAny_holding (wpAny_bind (hb₁.at ?_)))
  refine wpAny_bind (wpAny_call (codeAny_mono go fun r s' z => ?_))
  rcases r with e | (v | _ | _ | _)
  · exact z
  · exact z.elim
  · exact z.elim
  · exact z.elim
  · obtain ⟨rfl, z⟩ := z
    first
      | exact wpAny_pure (wpAny_pure z)
      | (wp_walk; exact z)
/-- C(.., k = ..): the call of such a class -/
theorem run_call (FB : ExcBaseFacts B newId initId bmB) (same : ∀ X : String, bm.contains (.type X) = bmB.contains (.type X)) {rest : List Value} {kw : List (Str × Value)} {fI : Addr}
    (hC : h.get? C = some (excClassObj nm q C N bs bm hdct sn sub ab col dd k0 k1 k2 k3 k5 newId)) (hi : Looks (model prog w) h (typeLookup (.ref C) "__init__") (some (.ref fI)))
    (hb : ∀ self, Looks (model prog w) h (bindSpecial (.ref fI) self) (.ref fI, [self])) (small : rest.length ≤ sizeLine)
    (go : codeAny (model prog w) (A.under (.builtin "type.__call__" ⟨.ref C :: rest, kw⟩)) (.call (.ref fI) ⟨.ref (h.objs.size + 1) :: rest, kw⟩) (InitBack (h.objs.size + 1) R)
      ⟨(h.push (kdv_tup rest)).push (excO C h.objs.size), g, d, t, os⟩) :
    codeAny (model prog w) A (.call (.ref C) ⟨rest, kw⟩) R ⟨h, g, d, t, os⟩ := by
  have look := tc_lookup
  have bind := tc_bind (.ref C)
  have isT : (⟨h, g, d, t, os⟩ : Shared).TypeIs (.ref C) "type" := ⟨_, hC, rfl⟩
  refine codeAny_of_tree ?_
  show wpAny _ _ (callAny (.ref C) _) _ _ _
  repeat (any_goals (first
    | assumption
    | with_reducible refine wpAny_loadPart_at hC ?_
    | wp_step))
  refine ⟨rfl, ?_⟩
  refine codeAny_call_builtin_at (Code.quiet_builtin _ (by decide +kernel)) entry_typeCall (wpAny_check_type_call_sub hC (run_type_call FB same hC hi hb small ?_))
  refine codeAny_mono go fun r s' z => ?_
  rcases r with e | (v | _ | _ | _) <;> exact z
end
end Er
namespace Er
open PySem PySem.W PySem.Calls PyProof.Rows PySem.Spec PySem.HandSPX
/-- a made error -/
structure Made (h h' : Heap) (e C d t1 : Addr) (pn : Str) (v : Value) : Prop where
  keep : ∀ b o, h.get? b = some o → h'.get? b = some o
  new : h.objs.size ≤ e
  obj : h'.get? e = some (excObj C t1 (some d) .none)
  big : h.objs.size ≤ d
  ne : d ≠ e
  ns : h'.Ns1 d (fun y => if y = pn then some v else none)
section
variable {prog : Program} {w : World} {A : Around} {R : Result → Shared → Prop} {s : Shared} {K : Frag} {mg : Str → Option Value} {C fI : Addr} {pn : Str} {base : Heap}
theorem err_made (T : ErrTxt prog K mg C fI pn) (Md : L2.Mod K mg base) (kb : ∀ b o, base.get? b = some o → s.heap.get? b = some o) (hroom : A.depth + 1 < recursionLimit) {us : List Value} {kw : List (Str × Value)} {v : Value}
    (hargs : (us = [v] ∧ kw = []) ∨ (us = [] ∧ kw = [(pn, v)])) (hq : ∀ h' tk e d t1, Made s.heap h' e C d t1 pn v → R (.ok (.ret (.ref e))) { s with heap := h', toks := tk }) :
    codeAny (model prog w) A (.call (.ref C) ⟨us, kw⟩) R s := by
  obtain ⟨nm, q, N, bs, bm, sn, sub, ab, col, dd, k0, k1, k2, k3, k5, hC, hbm⟩ := T.oex.cls
  have X : K.In s.heap := Md.kin.keeps kb
  obtain ⟨hp, g, dr, tk, os⟩ := s
  have small : us.length ≤ sizeLine := by
    rw [sizeLine_eq]
    rcases hargs with ⟨rfl, _⟩ | ⟨rfl, _⟩
    · show 1 ≤ _; omega
    · show 0 ≤ _; omega
  have up : ∀ b o, hp.get? b = some o → ((hp.push (kdv_tup us)).push (HandSPX.excO C hp.objs.size)).get? b = some o := fun b o e => Heap.get?_push_of_some _ (Heap.get?_push_of_some _ e)
  have atE : ((hp.push (kdv_tup us)).push (HandSPX.excO C hp.objs.size)).get? (hp.objs.size + 1) = some (HandSPX.excO C hp.objs.size) := by heap_get
  have hnx : K.lookup (hp.objs.size + 1) = none := by
    cases e : K.lookup (hp.objs.size + 1) with
    | none => rfl
    | some o => exact absurd (Nat.lt_of_succ_lt (Heap.lt_size (show hp.get? (hp.objs.size + 1) = some o from X _ _ e))) (Nat.lt_irrefl _)
  refine run_call F.excBase_ValueError (fun Y => HandSPX.refsVE_contains Y bm hbm) (X _ _ hC) (looks_findIn X T.iC) (fun self => bind_fn X self T.tI) small ?_
  refine err_init (v := v) (s := ⟨(hp.push (kdv_tup us)).push (HandSPX.excO C hp.objs.size), g, dr, tk, os⟩) T Md (fun b o e => up b o (kb b o e)) atE hnx ?_ ?_ fun h' tk' dx t1 Z => ?_
  · rw [L2.make_depth]
    exact hroom
  · rintro fd ⟨qual, body, sc, cl, kV, doc, pm, an, cdv, ct, p1, p2, rfl⟩
    rcases hargs with ⟨rfl, rfl⟩ | ⟨rfl, rfl⟩
    · exact BindsTo.of_eq (T.pn.bp _ _ _ _ _ _ _ _ _ _ _ _ _ _)
    · exact BindsTo.of_eq (T.pn.bk _ _ _ _ _ _ _ _ _ _ _ _ _ _)
  · have z : hp.objs.size + 1 + 1 ≤ dx := by
      have q := Z.big
      simpa only [Heap.size_push] using q
    exact ⟨rfl, hq h' tk' (hp.objs.size + 1) dx t1 ⟨fun b o e => Z.keep b o (Nat.ne_of_lt (Nat.lt_succ_of_lt (Heap.lt_size e))) (up b o e), Nat.le_succ _, Z.obj, by show hp.objs.size ≤ dx; omega, Z.ne, Z.ns⟩⟩
end
end Er
namespace L2
open PySem PySem.Spec PyProof.Rows
section
variable {X : Cx} {C fI : Addr} {pn : Str}
theorem relO_one {f : Str} {v : V} {v' : Value} (r : RelV v v') (y : Str) : RelO (List.lookup y [(f, v)]) (if y = f then some v' else none) := by
  by_cases e : y = f
  · rw [if_pos e, e]
    have q : List.lookup f [(f, v)] = some v := by simp [List.lookup]
    rw [q]
    exact r
  · rw [if_neg e]
    have b : (y == f) = false := by simpa using e
    have q : List.lookup y [(f, v)] = none := by simp [List.lookup, b]
    rw [q]
    trivial
/-- an error of the class at C stands at a, its dict at d with the one field -/
structure ErrAt (H : Hp) (C a d : Addr) (pn : Str) (v : V) : Prop where
  ob : H a = some (exo a C (some d))
  dc : H d = some (.xd [(pn, v)])
/-- the invariant behind the making of one -/
theorem made_inv {pins : List (Addr × Obj)} {σ : St} {H : Hp} {hp h' : Heap} {g : Array GenState} {dr : Drawn} {tk tk' : Nat} {os : OsState} {e d t1 : Addr} {v : V} {u : Value} (I : Inv X pins σ H ⟨hp, g, dr, tk, os⟩) (rv : RelV v u)
    (M : Er.Made hp h' e C d t1 pn u) : Inv X pins σ (upd (upd H d (.xd [(pn, v)])) e (exo e C (some d))) ⟨h', g, dr, tk', os⟩ ∧ H e = none ∧ H d = none ∧ e ≠ d := by
  obtain ⟨G, g1, g2⟩ := restrict h' fun b => decide (b ≠ e)
  have gk : ∀ b, b ≠ e → G.get? b = h'.get? b := fun b hb => g1 b (decide_eq_true hb)
  have ge : G.get? e = none := g2 e (by simp)
  have old : ∀ b o, hp.get? b = some o → G.get? b = some o := fun b o q => (gk b (Nat.ne_of_lt (Nat.lt_of_lt_of_le (Heap.lt_size q) M.new))).trans (M.keep b o q)
  have ob : ObjOk X.prog X.w (upd H d (.xd [(pn, v)])) G d (.xd [(pn, v)]) := ⟨_, M.ns.at (fun o q => (gk d M.ne).trans q), fun f => relO_one rv f⟩
  have J : Inv X pins σ (upd H d (.xd [(pn, v)])) ⟨G, g, dr, tk', os⟩ := I.laid (t' := tk') old M.big ob
  have he : H e = none := I.hok.fresh M.new
  have hd : H d = none := I.hok.fresh M.big
  have he' : (upd H d (.xd [(pn, v)])) e = none := by rw [upd_ne (Ne.symm M.ne)]; exact he
  have up : ∀ b o, G.get? b = some o → h'.get? b = some o := fun b o q => by
    by_cases hb : b = e
    · rw [hb, ge] at q; cases q
    · rw [← gk b hb]; exact q
  exact ⟨J.laidN (t' := tk') up ge he' (exo_ok M.obj), he, hd, Ne.symm M.ne⟩
/-- C(e) | C(pn = e): an own error with one field -/
def tErr (C : Addr) (pn : Str) (te : TE) : TE := fun σ H Q => te σ H fun v H1 => ∀ a d, H1 a = none → H1 d = none → a ≠ d → Q (.ref a) (upd (upd H1 d (.xd [(pn, v)])) a (exo a C (some d)))
theorem run_err {pins : List (Addr × Obj)} {σ : St} {H : Hp} {s : Shared} {Q : VK} {v : V} {u : Value} {us : List Value} {kw : List (Str × Value)} {k : Nat} (T : Er.ErrTxt X.prog X.K X.mg C fI pn) (hr : Room k X.A) (I : Inv X pins σ H s) (rv : RelV v u)
    (hargs : (us = [u] ∧ kw = []) ∨ (us = [] ∧ kw = [(pn, u)])) (h : ∀ a d, H a = none → H d = none → a ≠ d → Q (.ref a) (upd (upd H d (.xd [(pn, v)])) a (exo a C (some d)))) :
    wpAny (model X.prog X.w) X.A (call (.ref C) us kw) (EP X pins σ Q) X.xe s := by
  obtain ⟨hp, g, dr, tk, os⟩ := s
  refine wpAny_call (Er.err_made T I.ok.mod I.bk (by have := hr.dp; omega) hargs fun h' tk' e d t1 M => ?_)
  obtain ⟨J, he, hd, ne⟩ := made_inv (tk' := tk') I rv M
  exact ⟨.ref e, _, J, rfl, h e d he hd ne⟩
theorem pe_err {x : Str} {e : Expr} {te : TE} {p pos : Pos} {k : Nat} (T : Er.ErrTxt X.prog X.K X.mg C fI pn) (hr : Room k X.A) (hg : Gl X x) (hm : X.mg x = some (.ref C)) (he : PE X e te)
    (hs : starEach [e] X.env = (false, eval e X.env) :: starEach [] X.env := by rfl) (hdb : (x == ("__debug__" : Str)) = false := by decide) :
    PE X (.Call (.Name x p) [e] [] pos) (tErr C pn te) := by
  refine ⟨fun pins s σ H Q I h => ?_⟩
  refine wpAny_Call_Name_kw (ld_glob I hg hm ?_ hdb)
  refine PySem.W.callWith_K (h₀ := X.base) I.ok.mod.kin T.oex.kC ?_ hs (by rfl)
  rw [hs]
  refine Calls.spliced_cons (thn (he.run pins s σ H _ I h) fun u s1 ⟨v, H1, I1, r1, q1⟩ => ?_)
  exact Calls.spliced_nil ⟨I1.kIn, run_err T hr I1 r1 (.inl ⟨rfl, rfl⟩) q1⟩
def tErrK (C : Addr) (pn : Str) (te : TE) : TE := fun σ H Q => tCons te tNil σ H fun vs H1 => ∃ v, vs = [v] ∧ ∀ a d, H1 a = none → H1 d = none → a ≠ d → Q (.ref a) (upd (upd H1 d (.xd [(pn, v)])) a (exo a C (some d)))
theorem pe_errK {x : Str} {e : Expr} {te : TE} {p pos kp : Pos} {k : Nat} (T : Er.ErrTxt X.prog X.K X.mg C fI pn) (hr : Room k X.A) (hg : Gl X x) (hm : X.mg x = some (.ref C)) (he : PE X e te) (hdb : (x == ("__debug__" : Str)) = false := by decide) :
    PE X (.Call (.Name x p) [] [⟨some pn, e, kp⟩] pos) (tErrK C pn te) := by
  refine ⟨fun pins s σ H Q I h => ?_⟩
  refine wpAny_Call_Name_kw (ld_glob I hg hm ?_ hdb)
  refine PySem.W.callWith_KW0 (h₀ := X.base) I.ok.mod.kin T.oex.kC (by rfl) ?_ (by rfl)
  refine thn ((pk_cons he pk_nil).run pos pins s σ H _ I h) fun ws s2 ⟨zs, H2, I2, rz, v, ev, q2⟩ => ⟨I2.kIn, ?_⟩
  subst ev
  cases rz with
  | cons rv rn =>
    cases rn
    exact run_err T hr I2 rv (.inr ⟨rfl, rfl⟩) q2
end
end L2
namespace L2
open PySem PySem.Spec PyProof.Rows
/-- an error of the class at C stands at a: without, or with, a dict of its own -/
def IsErr (H : Hp) (a C : Addr) : Prop := H a = some (ExO (.ref C) a) ∨ ∃ (d : Addr) (pn : Str) (v : V), H a = some (exo a C (some d)) ∧ H d = some (.xd [(pn, v)])
section
variable {X : Cx} {pins : List (Addr × Obj)} {σ : St} {H : Hp} {s : Shared} {a C : Addr}
theorem IsErr.inst (I : Inv X pins σ H s) (e : IsErr H a C) : ∃ (ox : Obj) (od : Option Obj), PySem.W.InstAt s.heap a ox C od := by
  rcases e with e | ⟨d, pn, v, e, ed⟩
  · obtain ⟨⟨oe, vs, ho, ⟨hc, hd⟩, hv, _⟩, _, _⟩ := (show ObjOk X.prog X.w H s.heap a (ExO (.ref C) a) from I.hok a _ e)
    obtain ⟨oc, od, oda, osl⟩ := oe
    dsimp only at hc hd hv
    subst hc hd hv
    exact ⟨_, none, ho, rfl, rfl, trivial⟩
  · obtain ⟨t1, ho⟩ := exo_at I.hok e
    obtain ⟨mA, ⟨o, es, ep, h1, _⟩, _⟩ := (show ObjOk X.prog X.w H s.heap d (.xd [(pn, v)]) from I.hok d _ ed)
    exact ⟨_, some o, ho, rfl, rfl, h1⟩
/-- isinstance(e, c), e an error -/
def rIsV (K : PySem.W.Frag) : List V → Hp → VK → Prop := fun xs H Q => ∃ (a C : Addr) (c : V) (cv : Value) (b : Bool), xs = [.ref a, c] ∧ IsErr H a C ∧ ExcC K C ∧ (∀ u, RelV c u → u = cv) ∧ PySem.W.kitOne K (.ref C) cv = some b ∧ Q (.bl b) H
theorem call_isV : CallR X (.builtin "isinstance") (rIsV X.K) := by
  intro pins s σ H xs us Q I r h
  obtain ⟨a, C, c, cv, b, rfl, he, T, hcv, e, q⟩ := h
  cases r with
  | cons rx rr =>
    cases rr with
    | cons rt rr =>
      cases rr
      cases rx
      have ec := hcv _ rt
      subst ec
      obtain ⟨ox, od, J⟩ := he.inst I
      have isC : (PySem.W.clsIn X.K C).isSome = true := by
        have q := T.hd
        unfold PySem.W.hasDictIn at q
        cases z : PySem.W.clsIn X.K C with
        | none => rw [z] at q; cases q
        | some _ => rfl
      exact PySem.W.kia_one (PySem.W.kitx_exc (od := od) isC T.hg T.hk T.hs T.ha T.hn T.ht T.hm) I.kIn J e (fun z => nomatch z) fun tk => ⟨.bl b, H, I.kept (t' := tk) fun _ _ z => z, rfl, q⟩
/-- e.pn, e an error with that field -/
def tErrFld (K : PySem.W.Frag) (pn : Str) (te : TE) : TE := fun σ H Q => te σ H fun x H1 => ∃ (a C d : Addr) (v : V), x = .ref a ∧ H1 a = some (exo a C (some d)) ∧ H1 d = some (.xd [(pn, v)]) ∧ ExcC K C ∧ PySem.W.findIn K (.ref C) pn = some none ∧ Q v H1
theorem pe_errFld {e : Expr} {te : TE} {pn : Str} {pos : Pos} (he : PE X e te) (hb : attributeBase e pn X.env (eval e X.env) = eval e X.env := by rfl) : PE X (.Attribute e pn pos) (tErrFld X.K pn te) := by
  refine ⟨fun pins s σ H Q I h => ?_⟩
  refine attr_of hb (thn (he.run pins s σ H _ I h) fun u s1 hh => ?_)
  obtain ⟨x, H1, I1, rx, a, C, d, v, rfl, ea, ed, T, hno, q⟩ := hh
  obtain rfl : u = Value.ref a := rx
  obtain ⟨t1, ho⟩ := exo_at I1.hok ea
  obtain ⟨mA, hns, hr⟩ := (show ObjOk X.prog X.w H1 s1.heap d (.xd [(pn, v)]) from I1.hok d _ ed)
  obtain ⟨od, hod, hl⟩ := lookIn_ns hns
  have l : List.lookup pn [(pn, v)] = some v := by simp [List.lookup]
  obtain ⟨u, hu, ru⟩ := RelO.some_of (v := v) (o := mA pn) (by rw [← l]; exact hr pn)
  have J : PySem.W.InstAt s1.heap a ({ cls := .ref C, dict := some d, data := .fields #[.ref t1, .none, .none, .none, .bool false, .none] } : Obj) C (some od) := ⟨ho, rfl, rfl, hod⟩
  exact HandSPX.exc_get I1.kIn J T.hg T.hk T.hs (PySem.W.findObj_own T.hd hno rfl (by rw [hl, hu])) (handed_of ru) ⟨v, H1, I1.tok _, ru, q⟩
end
end L2
namespace L2
open PySem PySem.Spec PyProof.Rows
section
variable {X : Cx} {pins : List (Addr × Obj)} {σ : St} {H : Hp} {s : Shared}
/-- the value v is read as the datum d, and stands apart from sys.modules -/
def ReadsV (X : Cx) (H : Hp) (v : V) (d : PyData) : Prop := ∀ (pins : List (Addr × Obj)) (σ : St) (s : Shared) (u : Value), Inv X pins σ H s → RelV v u → ∃ as, Reads s.heap u d as ∧ sysModules ∉ as
/-- repr of a list, a tuple or a dict whose datum is known -/
def rRepr (X : Cx) : List V → Hp → VK → Prop := fun xs H Q => ∃ (a : Addr) (d : PyData), xs = [.ref a] ∧ ReadsV X H (.ref a) d ∧ d.showable = true ∧ d.depth ≤ 50 ∧ d.shown.length ≤ sizeLine ∧ Q (.str d.shown) H
theorem call_reprV (hg : X.A.guards = some []) (hu : X.A.units + 64 < cLine) : CallR X (.builtin "repr") (rRepr X) := by
  intro pins s σ H xs us Q I r h
  obtain ⟨a, d, rfl, hr, hs, hd, hz, q⟩ := h
  cases r with
  | cons rx rr =>
    cases rr
    obtain rfl := (show _ = Value.ref a from rx)
    obtain ⟨as, R, ns⟩ := hr pins σ s (.ref a) I rfl
    exact repr_of_reads' R hs (fun _ => ns) hg (by omega) (fun _ _ e => e) (fun h' u tk k => ⟨.str d.shown, H, I.kept (t' := tk) k, ⟨u, rfl⟩, q⟩) hz
/-- a list's display, with that it stands elsewhere than sys.modules -/
def tLstN (t : TA) : TE := fun σ H Q => t σ H fun xs H1 => xs.length ≤ sizeLine ∧ ∀ p, p ≠ sysModules → H1 p = none → Q (.ref p) (upd H1 p (.lst xs))
theorem pe_lstN {es : List Expr} {t : TA} {pos : Pos} (h : PA X es t) : PE X (.List es pos) (tLstN t) := by
  refine ⟨fun pins s σ H Q I hq => ?_⟩
  refine wpAny_List_spliced (thn (h.run pos pins s σ H _ I hq) fun us s1 ⟨xs, H1, I1, r, z, q⟩ => ⟨by rw [← r.length]; exact z, ?_⟩)
  have big : sysModules < s1.heap.objs.size := by
    obtain ⟨o, _, _, ho, _⟩ := I1.mod.glob
    exact Nat.lt_of_lt_of_le (Nat.lt_trans (by decide) (Heap.lt_size ho)) (Nat.le_trans I1.ok.bsz I1.sz)
  refine ⟨.ref s1.heap.objs.size, upd H1 s1.heap.objs.size (.lst xs), I1.laid (t' := s1.toks) (fun b u e => Heap.get?_push_of_some _ e) (Nat.le_refl _) ?_, rfl, q _ (Nat.ne_of_gt big) (I1.hok.fresh (Nat.le_refl _))⟩
  exact ⟨z, us, 0, r, Heap.get?_push_size _ rfl⟩
theorem ReadsV.non : ReadsV X H .non .none := fun _ _ _ u _ r => by
  obtain rfl := (show u = Value.none from r)
  exact ⟨[], .none, by simp⟩
theorem ReadsV.bl (b : Bool) : ReadsV X H (.bl b) (.bool b) := fun _ _ _ u _ r => by
  obtain rfl := (show u = Value.bool b from r)
  exact ⟨[], .bool b, by simp⟩
theorem ReadsV.int (i : Int) : ReadsV X H (.int i) (.int i) := fun _ _ _ u _ r => by
  obtain ⟨t, rfl⟩ := (show ∃ t, u = Value.int i t from r)
  exact ⟨[], .int i t, by simp⟩
theorem ReadsV.str (x : Str) : ReadsV X H (.str x) (.str x) := fun _ _ _ u _ r => by
  obtain ⟨t, rfl⟩ := (show ∃ t, u = Value.str x t from r)
  exact ⟨[], .str x t, by simp⟩
/-- a row of values and their data -/
def ReadsVs (X : Cx) (H : Hp) : List V → List PyData → Prop := Paired fun v d => ReadsV X H v d
theorem ReadsVs.all {vs : List V} {ds : List PyData} (r : ReadsVs X H vs ds) : ∀ {us : List Value}, Inv X pins σ H s → Vals vs us → ∃ as, ReadsAll s.heap us ds as ∧ sysModules ∉ as := by
  unfold ReadsVs at r
  induction r with
  | nil => intro us I q; cases q; exact ⟨[], .nil, by simp⟩
  | @cons v d vs ds h t ih =>
    intro us I q
    cases q with
    | @cons _ u _ us hu ht =>
      obtain ⟨as, r1, n1⟩ := h pins σ s u I hu
      obtain ⟨bs, r2, n2⟩ := ih I ht
      exact ⟨as ++ bs, .cons r1 r2, by simp [n1, n2]⟩
theorem ReadsV.lst {a : Addr} {vs : List V} {ds : List PyData} (na : a ≠ sysModules) (e : H a = some (.lst vs)) (r : ReadsVs X H vs ds) : ReadsV X H (.ref a) (.list ds) := fun pins σ s u I ru => by
  obtain rfl := (show u = Value.ref a from ru)
  obtain ⟨_, its, n, rv, h1⟩ := (show ObjOk X.prog X.w H s.heap a (.lst vs) from I.hok a _ e)
  obtain ⟨as, r1, n1⟩ := r.all I rv
  refine ⟨a :: as, .list h1 rfl rfl (by simpa using r1), ?_⟩
  simp [na.symm, n1]
theorem ReadsV.tup {a : Addr} {vs : List V} {ds : List PyData} (e : H a = some (.tup vs)) (r : ReadsVs X H vs ds) : ReadsV X H (.ref a) (.tuple ds) := fun pins σ s u I ru => by
  obtain rfl := (show u = Value.ref a from ru)
  obtain ⟨_, its, rv, o, h1, h2, n, h3⟩ := (show ObjOk X.prog X.w H s.heap a (.tup vs) from I.hok a _ e)
  obtain ⟨as, r1, n1⟩ := r.all I rv
  exact ⟨as, .tuple h1 h2 h3 (by simpa using r1), n1⟩
theorem ReadsV.dic0 {a : Addr} (e : H a = some (.dK [])) : ReadsV X H (.ref a) (.dict []) := fun pins σ s u I ru => by
  obtain rfl := (show u = Value.ref a from ru)
  obtain ⟨_, na, vs, rv, o, es, ep, h1, h2, h3, h4, h5, h6⟩ := (show ObjOk X.prog X.w H s.heap a (.dK []) from I.hok a _ e)
  cases rv
  generalize hes : es.toList = l at h5
  cases h5
  refine ⟨_, .dict h1 h2.1 h3 (by rw [hes]; exact .nil) (by rw [hes]; exact .nil), ?_⟩
  simp at na
  simp
  exact fun z => na z.symm
theorem ReadsV.dic1 {a : Addr} {x : Str} {v : V} {d : PyData} (e : H a = some (.dK [(.inr x, v)])) (r : ReadsV X H v d) : ReadsV X H (.ref a) (.dict [(.str x, d)]) := fun pins σ s u I ru => by
  obtain rfl := (show u = Value.ref a from ru)
  obtain ⟨_, na, vs, rv, o, es, ep, h1, h2, h3, h4, h5, h6⟩ := (show ObjOk X.prog X.w H s.heap a (.dK [(.inr x, v)]) from I.hok a _ e)
  cases rv with
  | @cons _ q _ qs hq ht =>
    cases ht
    obtain ⟨k, y⟩ := q
    obtain ⟨hk, hy⟩ := hq
    dsimp only at hk hy
    subst hk
    generalize hes : es.toList = l at h5
    cases h5 with
    | @cons en kv es' kvs' hkey hval hr =>
      cases hr
      rcases keyIs_shape (k := .inr x) (v := en.key) hkey with ⟨i, t, z, _⟩ | ⟨x', t, z, ek⟩
      · cases z
      · obtain rfl := Sum.inr.inj z
        obtain ⟨as, R, n⟩ := r pins σ s y I hy
        refine ⟨_, .dict (kvs := [(.str x, d)]) h1 h2.1 h3 (by rw [hes]; show ReadsAll _ [en.key] [.str x] _; rw [ek]; exact .cons (.str x t) .nil) (by rw [hes]; show ReadsAll _ [en.val] [d] _; rw [hval]; exact .cons R .nil), ?_⟩
        simp at na
        simp [n]
        exact fun z => na z.symm
end
end L2
namespace L2
open PySem PySem.Spec PyProof.Rows
section
variable {P : Program} {w : World} {K : PySem.W.Frag} {mg : Str → Option Value} {base : Heap}
/-- a def that runs where no repr is under way -/
structure FnOkG (P : Program) (w : World) (K : PySem.W.Frag) (mg : Str → Option Value) (base : Heap) (k : Nat) (f : Addr) (fd : FuncData) (ps : List Str) (sp : Sp) : Prop where
  run : ∀ (A : Around) (outer : List Env) (s : Shared) (H : Hp) (args : Args) (us : List Value) (vs : List V) (Q : VK) (E : XK), A.guards = some [] → Room k A →
    Env0 P w K mg base A outer s H → BindsTo s fd args (ps.zip us) → Vals vs us → sp vs H Q E → codeAny (model P w) A (.call (.ref f) args) (CR CX0 outer P w H s Q E) s
theorem Fun.okG {x qual : Str} {st : Stmt} {f : Addr} {fd : FuncData} {N ps : List Str} {k : Nat} {sp : Sp} (D : Fun K x qual st f fd) (S : FnScope N ps (defScope st)) (many : ∀ vs H Q E, sp vs H Q E → vs.length = ps.length)
    (body : ∀ (cdv : Value) (A : Around) (outer : List Env) (s : Shared) (H : Hp) (vs : List V) (Q : VK) (E : XK), A.guards = some [] → Room k (A.deeper (envOfC qual (defScope st) s.heap.objs.size f cdv)) → sp vs H Q E →
      ∃ t, PSs (cxOf CX0 P w K mg base N qual (defScope st) f cdv A outer s H E).nox (defBody st) t ∧ t { nx := fun _ H' => Q .non H', rt := Q } (start N vs) H) :
    FnOkG P w K mg base (k + 1) f fd ps sp := by
  obtain ⟨oc, od, kV, doc, pm, an, cdv, ct, osl, rfl, look, code⟩ := D.ex
  refine ⟨fun A outer s H args us vs Q E guards room env0 bind rel want => ?_⟩
  have lens := many _ _ _ _ want
  have inK : K.In s.heap := env0.mod.kin.keeps fun b o e => (env0.bs b o e).1
  have free : s.heap.NoLimit := env0.mod.nolimit.keeps fun b o e => (env0.bs b o e).1
  have kinds : ∀ y ∈ ps.zip us, (defScope st).names.lookup y.1 = some .local ∨
      ((defScope st).names.lookup y.1 = some .cell ∧ ((cellsFrom (s.heap.objs.size + 1) (defScope st).names []).lookup y.1).isSome = true) := by
    rintro ⟨n, v⟩ hy
    rcases S.par n (List.of_mem_zip hy).1 with q | q
    · exact Or.inl q
    · exact Or.inr ⟨q, PySem.W.cellsFrom_some _ _ _ (.inl q)⟩
  refine codeAny_call_function room.depth (inK _ _ look) rfl S.co S.gen rfl
    (PySem.W.codeRec_of inK code) (bind _ _ _ _ ?_)
  refine wpAny_newFunctionEnv_cells S.kind kinds fun env hEnv s1 inCall => ?_
  subst hEnv
  refine ⟨free.keeps inCall.toInCall.keep, codeAny_func ?_⟩
  obtain ⟨t, ht, hq⟩ := body cdv A outer s H vs Q E guards (room.deeper _) want
  have start0 := inv_start (CX := CX0) (P := P) (w := w) (mg := mg) (base := base) (E := E) S room.hd env0 lens rel inCall
  refine wpAny_mono (ht.nox.run [] s1 (start N vs) H _ start0 hq) (fun fl s' hs => ?_) fun e s' hs => hs
  cases fl with
  | ret u =>
    obtain ⟨v, σ', H', J, rv, q⟩ := hs
    exact ⟨v, H', J.os, J.bare, J.base, J.hok, rv, q⟩
  | next =>
    obtain ⟨σ', H', J, q⟩ := hs
    exact ⟨.non, H', J.os, J.bare, J.base, J.hok, rfl, q⟩
  | brk =>
    obtain ⟨_, _, _, q⟩ := hs
    exact q.elim
  | cont =>
    obtain ⟨_, _, _, q⟩ := hs
    exact q.elim
end
end L2
namespace L2
open PySem PySem.Spec PyProof.Rows
/-- the law's call at its entry, over an abstract heap in which the script alone may be tracked -/
theorem entry_run {P : Program} {w : World} {K : PySem.W.Frag} {mg mb : Str → Option Value} {k : Nat} {fa a : Addr} {fd : FuncData} {x : Str} {sp : Sp} {s₁ : Shared} {vs : List Value} {ns : List Int} (inK : K.In s₁.heap) (glob : s₁.heap.Ns mainGlobals mg)
    (blt : s₁.heap.Ns builtinsNs mb) (same : ∀ x : Str, x ≠ "__name__" → mb x = bootBuiltins x) (lim : s₁.heap.NoLimit) (noG : s₁.gens = #[]) (at_ : s₁.heap.get? a = some { cls := .type "list", data := .seq vs.toArray }) (areInts : IntsAre vs ns)
    (room : Room k callerA) (D : ∀ base : Heap, K.In base → base.Ns mainGlobals mg → FnOkG P w K mg base k fa fd [x] sp) (bind : ∀ (s : Shared) (u : Value), BindsTo s fd ⟨[u], []⟩ [(x, u)])
    (want : ∀ H : Hp, Only H → SqL K H a (ns.map V.int) → sp [.ref a] H (fun v _ => v = .bl true) fun _ _ _ => False)
    (H : Hp) (only : Only H) (seq : SqL K H a (ns.map V.int)) (ok : HOk P w H s₁.heap) (just : ∀ b, H b ≠ none → b = a) (out : H a ≠ none → K.lookup a = none) :
    codeAny (model P w) callerA (.call (.ref fa) ⟨[.ref a], []⟩) (fun r s' => r = .ok (.ret (.bool true)) ∧ OldK s₁.heap s'.heap ∧ s'.os = s₁.os ∧ AllBare s'.gens) s₁ := by
  have isA : ∀ {b : Addr} {u : HO}, H b = some u → b = a := fun {b u} q => just b (by rw [q]; exact fun z => nomatch z)
  have noDict : ∀ {b : Addr} {o : Obj} {es : Array DictEntry} {ep : Nat}, s₁.heap.get? b = some o → o.data = .dict es ep → H b = none := by
    intro b o es ep e d
    cases q : H b with
    | none => rfl
    | some u =>
      obtain rfl := isA q
      rw [at_] at e
      cases e
      exact absurd (show Data.seq vs.toArray _ = Data.dict es ep from d) (fun z => nomatch z)
  have ns' : ∀ {b : Addr} {m : Str → Option Value}, s₁.heap.Ns b m → (hidT s₁.heap H).Ns b m := by
    rintro b m ⟨o, es, ep, e, d, r⟩
    exact ⟨o, es, ep, hidT_get e (noDict e d), d, r⟩
  have inB : K.In (hidT s₁.heap H) := by
    intro b o e
    refine hidT_get (inK b o e) ?_
    cases q : H b with
    | none => rfl
    | some u =>
      obtain rfl := isA q
      rw [out (by rw [q]; exact fun z => nomatch z)] at e
      cases e
  obtain ⟨mc, l1, l2⟩ := lim
  have modB : Mod K mg (hidT s₁.heap H) := ⟨inB, ns' glob, ⟨mb, ns' blt, same⟩, ⟨mc, ns' l1, l2⟩⟩
  have noB : ∀ b : Addr, b ∉ frs ([] : List Env) := fun b z => by simp [frs] at z
  have env0 : Env0 P w K mg (hidT s₁.heap H) callerA [] s₁ H := ⟨rfl, modB, fun b o e => of_hidT e, Nat.le_of_eq (hidT_size _ _), trivial, fun b z => absurd z (noB b), ok, .of_eq noG⟩
  refine codeAny_mono ((D _ inB (ns' glob)).run callerA [] s₁ H ⟨[.ref a], []⟩ [.ref a] [.ref a] _ _ rfl room env0 (bind s₁ (.ref a)) (.cons rfl .nil) (want H only seq)) ?_
  intro r s' h
  cases r with
  | error e => exact False.elim h
  | ok fl =>
    cases fl with
    | next => exact False.elim h
    | brk => exact False.elim h
    | cont => exact False.elim h
    | ret u =>
      obtain ⟨v, H', os, bare, un, ok', rel, q⟩ := h
      obtain rfl := (show v = V.bl true from q)
      obtain rfl := (show u = Value.bool true from rel)
      refine ⟨rfl, OldK.of_keep fun b o e => ?_, os, bare⟩
      rcases only b with z | ⟨ob, xs, z⟩
      · exact un.keep b o e z (noB b) (by simp)
      · have e1 := (ok b _ z).1
        have e2 := (ok' b _ (un.frzs b ob _ z)).1
        rw [e] at e1
        cases e1
        exact e2
/-- the goal that k_head leaves, from a promise that is kept where no repr is under way -/
theorem walk_guard {l : PySem.W.OpenLaw} {n k : Nat} {q : Program} {loose : List Str} {XP : (Str → Option Value) → Heap → Prop} {YP : World → Heap → Prop} {d : DefRec} {K : Params → PySem.W.Frag} {sp : PySem.W.Frag → Sp} {x : Str}
    (most : l.most = some n) (small : n ≤ sizeLine) (noDf : d.params.defaults = []) (room : Room k callerA) (inK : ∀ (w : World) (h : Heap), YP w h → (K w.params).In h)
    (D : ∀ (w : World) (mg : Str → Option Value) (fa : Addr) (h : Heap), (K w.params).In h → h.Ns mainGlobals mg → mg d.name = some (.ref fa) →
      ∃ fd : FuncData, (∀ (s : Shared) (u : Value), BindsTo s fd ⟨[u], []⟩ [(x, u)]) ∧
        ∀ base : Heap, (K w.params).In base → base.Ns mainGlobals mg → FnOkG l.prog w (K w.params) mg base k fa fd [x] (sp (K w.params)))
    (want : ∀ (K : PySem.W.Frag) (H : Hp) (a : Addr) (ns : List Int), ns.length ≤ n → Only H → SqL K H a (ns.map V.int) → sp K [.ref a] H (fun v _ => v = .bl true) fun _ _ _ => False) :
    PySem.W.WalkO q loose XP YP l.row.toRowW d [] (fun f vs => PySem.call f vs) := by
  refine Att.attach_call most noDf fun w s₀ s₁ mg mb fa o pm cd doc a vs ns G Y ho hd hcd hmg hobj hints hlen hg => ?_
  have X := inK w _ Y
  obtain ⟨fd, bind, hD⟩ := D w mg fa _ X G.T.g hmg
  have leng := hints.length
  have le : ns.length ≤ sizeLine := Nat.le_trans hlen small
  have go := entry_run (P := l.prog) (w := w) X G.T.g G.T.b G.T.builtins G.T.nolimit hg hobj hints room hD bind (fun H h1 h2 => want _ H a ns hlen h1 h2)
  cases hk : (K w.params).lookup a with
  | some ob =>
    have e := X a ob hk
    rw [hobj] at e
    cases e
    refine go (fun _ => none) (fun _ => .inl rfl) (.inr ⟨_, vs.toArray, _, hk, rfl, rfl, rfl, by rw [List.size_toArray, leng]; exact le, by simpa using vals_ints hints⟩) ?_ (fun b z => absurd rfl z) fun z => absurd rfl z
    intro b u z
    cases (show (none : Option HO) = some u from z)
  | none =>
    refine go (fun b => if b = a then some (.frz { cls := .type "list", data := .seq vs.toArray } (.lst (ns.map V.int))) else none) (fun b => ?_) (.inl (.inr ⟨_, if_pos rfl⟩)) (fun b u z => ?_) (fun b z => ?_) fun _ => hk
    · by_cases hb : b = a
      · exact Or.inr ⟨_, _, if_pos hb⟩
      · exact Or.inl (if_neg hb)
    · by_cases hb : b = a
      · have z' := (if_pos hb).symm.trans z
        cases z'
        subst hb
        exact ⟨hobj, by rw [List.length_map]; exact le, vs, _, vals_ints hints, hobj⟩
      · cases (if_neg hb).symm.trans z
    · exact Classical.byContradiction fun hb => z (if_neg hb)
end L2
namespace Dr
open PySem PySem.Spec PyProof.Rows L2
def top (i : Nat) : Stmt := PySem.Challenge.pw_playsalike_k00_errors_of_all_parts.main.body.getD i (.Pass ⟨0, 0, 0, 0⟩)
abbrev sBegun : Stmt := top 41
abbrev sMixed : Stmt := top 42
abbrev sTake : Stmt := top 43
abbrev sPick : Stmt := top 44
theorem scBegun : FnScope ["script", "large", "grain"] ["script"] (defScope sBegun) := ⟨rfl, rfl, rfl, by decide +kernel, rfl, by decide +kernel, by decide +kernel⟩
theorem scMixed : FnScope ["draw", "turn", "found", "great", "blend", "grain"] ["draw"] (defScope sMixed) := ⟨rfl, rfl, rfl, by decide +kernel, rfl, by decide +kernel, by decide +kernel⟩
theorem scTake : FnScope ["draw", "amount", "found"] ["draw", "amount"] (defScope sTake) := ⟨rfl, rfl, rfl, by decide +kernel, rfl, by decide +kernel, by decide +kernel⟩
theorem scPick : FnScope ["draw", "some"] ["draw", "some"] (defScope sPick) := ⟨rfl, rfl, rfl, by decide +kernel, rfl, by decide +kernel, by decide +kernel⟩

/-! the drawing dict -/
def dkv (l c : Addr) (r t : Int) : List (Key × V) :=
  [(.inr "large", .ref l), (.inr "rest", .int r), (.inr "cells", .ref c), (.inr "turn", .int t)]
theorem n1 : ¬ (("large" : Str) = "rest") := by decide +kernel
theorem n2 : ¬ (("large" : Str) = "cells") := by decide +kernel
theorem n3 : ¬ (("large" : Str) = "turn") := by decide +kernel
theorem n4 : ¬ (("rest" : Str) = "cells") := by decide +kernel
theorem n5 : ¬ (("rest" : Str) = "turn") := by decide +kernel
theorem n6 : ¬ (("cells" : Str) = "turn") := by decide +kernel
theorem m1 : ¬ (("rest" : Str) = "large") := by decide +kernel
theorem m2 : ¬ (("cells" : Str) = "large") := by decide +kernel
theorem m3 : ¬ (("turn" : Str) = "large") := by decide +kernel
theorem m4 : ¬ (("cells" : Str) = "rest") := by decide +kernel
theorem m5 : ¬ (("turn" : Str) = "rest") := by decide +kernel
theorem m6 : ¬ (("turn" : Str) = "cells") := by decide +kernel
section
variable (l c : Addr) (r t x : Int)
theorem v_large : valV (dkv l c r t) (Sum.inr "large" : Key) = some (.ref l) := by simp [dkv, valV]
theorem v_rest : valV (dkv l c r t) (Sum.inr "rest" : Key) = some (.int r) := by simp [dkv, valV, n1]
theorem v_cells : valV (dkv l c r t) (Sum.inr "cells" : Key) = some (.ref c) := by simp [dkv, valV, n2, n4]
theorem v_turn : valV (dkv l c r t) (Sum.inr "turn" : Key) = some (.int t) := by simp [dkv, valV, n3, n5, n6]
theorem p_rest : putK (dkv l c r t) (Sum.inr "rest" : Key) (.int x) = dkv l c x t := by simp [dkv, putK, n1, m4, m5]
theorem p_turn : putK (dkv l c r t) (Sum.inr "turn" : Key) (.int x) = dkv l c r x := by simp [dkv, putK, n3, n5, n6]
theorem merged_eq : mergeK [] (dkv l c r t) = dkv l c r t := by
  simp [dkv, mergeK, putK, n1, n2, n3, n4, n5, n6]
end
/-- a drawing dict stands at d, its lists at l and c -/
structure DrawAt (H : Hp) (d l c : Addr) : Prop where
  dl : d ≠ l
  dc : d ≠ c
  lc : l ≠ c
  ex : ∃ (r t : Int) (ls cs : List Int), H d = some (.dK (dkv l c r t)) ∧ H l = some (.lst (ls.map V.int)) ∧ H c = some (.lst (cs.map V.int)) ∧ ls.length ≤ 1000 ∧ cs.length ≤ 1000
/-- all but the drawing dict and its first list is as it was -/
def But (H H' : Hp) (d l : Addr) : Prop := ∀ b o, H b = some o → b ≠ d → b ≠ l → H' b = some o
theorem But.refl (H : Hp) (d l : Addr) : But H H d l := fun _ _ h _ _ => h
theorem But.trans {H H1 H2 : Hp} {d l : Addr} (a : But H H1 d l) (b : But H1 H2 d l) : But H H2 d l := fun x o h h1 h2 => b x o (a x o h h1 h2) h1 h2

def spBegun (K : PySem.W.Frag) : Sp := fun vs H Q _ => ∃ (a : Addr) (ns : List Int), vs = [.ref a] ∧ SqL K H a (ns.map V.int) ∧ ns.length ≤ 63 ∧
  ∀ (d l c : Addr) (H' : Hp), Same H H' → H d = none → H l = none → H c = none → DrawAt H' d l c → Q (.ref d) H'
def spMixed : Sp := fun vs H Q _ => ∃ (d l c : Addr), vs = [.ref d] ∧ DrawAt H d l c ∧ ∀ (n : Int) (H' : Hp), DrawAt H' d l c → But H H' d l → Q (.int n) H'
def spTake : Sp := fun vs H Q _ => ∃ (d l c : Addr) (m : Int), vs = [.ref d, .int m] ∧ 0 < m ∧ m < 1000000 ∧ DrawAt H d l c ∧ ∀ (n : Int) (H' : Hp), 0 ≤ n → n < m → DrawAt H' d l c → But H H' d l → Q (.int n) H'
def spPick (K : PySem.W.Frag) : Sp := fun vs H Q _ => ∃ (d l c a : Addr) (xs : List V), vs = [.ref d, .ref a] ∧ H a = some (.lst xs) ∧ a ≠ d ∧ a ≠ l ∧ 0 < xs.length ∧ xs.length < 1000 ∧ DrawAt H d l c ∧
  ∀ (i : Nat) (x : V) (H' : Hp), xs[i]? = some x → DrawAt H' d l c → But H H' d l → Q x H'
section
variable {P : Program} {w : World} {K : PySem.W.Frag} {mg : Str → Option Value} {base : Heap}
theorem len_take_map {ns : List Int} {i : Nat} {x : V} (h : (ns.map V.int)[i]? = some x) : ∃ z, x = .int z ∧ i < ns.length := by
  rw [List.getElem?_map] at h
  cases e : ns[i]? with
  | none => rw [e] at h; cases h
  | some z => rw [e] at h; exact ⟨z, (Option.some.inj h).symm, (List.getElem?_eq_some_iff.mp e).1⟩
theorem ok_begun {f : Addr} {fd : FuncData} (F : Fun K "_law_begun" "_law_begun" sBegun f fd) (mA : mg "abs" = none) : FnOk P w K mg base CX0 1 f fd ["script"] (spBegun K) := by
  refine F.ok scBegun (fun vs H Q E h => ?_) (fun cdv A outer s H vs Q E hr h => ?_)
  · obtain ⟨a, ns, rfl, _⟩ := h
    rfl
  · obtain ⟨a, ns, rfl, hS, hlen, k⟩ := h
    have hu := hu_of hr
    have nd := scBegun.nd
    refine ⟨_, pss_cons (ps_setLc (i := 1) (own := [("grain", 2)]) (g := gName 2) rfl nd rfl rfl (sw_true rfl rfl rfl (by decide +kernel)) (pi_list (pv 0))
        (blkOk_by (N := ["script", "large", "grain"]) (sc := defScope sBegun) (by decide +kernel)) (fun _ _ _ _ _ => pg_name (i := 2) nd rfl (Or.inl rfl))
        (fun _ _ _ _ _ => pts_one (pt_cmpR op_ge (pe_callB call_abs (by rfl) mA (by decide +kernel) (pa_cons (pv 2) pa_nil)) (pe_op op_pow pe_int pe_int) (nomark _)))
        (fun _ _ _ _ _ => pe_op op_sub (pe_callB call_abs (by rfl) mA (by decide +kernel) (pa_cons (pv 2) pa_nil)) (pe_op op_pow pe_int pe_int)))
      (pss_one (ps_ret (pe_disp (pps_cons pe_str (pv 1) (pps_cons pe_str pe_int (pps_cons pe_str
        (pe_lc (own := [("grain", 2)]) (g := gName 2) rfl nd (pi_list (pv 0)) (blkOk_by (N := ["script", "large", "grain"]) (sc := defScope sBegun) (by decide +kernel))
          (fun _ _ _ _ _ => pg_name (i := 2) nd rfl (Or.inl rfl)) (fun _ _ _ _ _ => pts_nil) (fun _ _ _ _ _ => pe_callB call_abs (by rfl) mA (by decide +kernel) (pa_cons (pv 2) pa_nil)))
        (pps_cons pe_str pe_int pps_nil)))) (by rfl) (by rfl) (fun z => by cases z) (by decide)))), ?_⟩
    -- large = [..]
    refine ⟨_, rfl, a, rfl, ⟨_, hS⟩, fun l nl => ?_⟩
    have sL : Same H (upd H l (.lst [])) := fun b o e => by rw [upd_ne (ne_of_none e nl)]; exact e
    refine lc_list (K := K) (a := a) (xs := ns.map V.int) (fun i H' => Same H H' ∧ ∃ ls : List Int, H' l = some (.lst (ls.map V.int)) ∧ ls.length ≤ i)
      ⟨sL, [], upd_same, Nat.le_refl _⟩ (fun i H' _ ⟨s1, _⟩ => s1.seq hS) ?_ ?_
    · rintro i x H' hx ⟨s1, ls, e1, h1⟩
      obtain ⟨z, rfl, hi⟩ := len_take_map hx
      refine ⟨rfl, ?_⟩
      refine ⟨_, rfl, z, rfl, 10, 18, rfl, rfl, ⟨by decide, by decide, by decide⟩, _, _, rfl, rfl, _, rfl, ?_⟩
      refine ite2 (fun _ => ?_) (fun _ => ?_)
      · refine ⟨_, rfl, z, rfl, 10, 18, rfl, rfl, ⟨by decide, by decide, by decide⟩, _, _, rfl, rfl, _, e1, small1000 (by rw [List.length_map]; omega), ?_⟩
        refine ⟨fun b o e => ?_, ls ++ [_], by rw [upd_same, List.map_append]; rfl, by rw [List.length_append, List.length_singleton]; omega⟩
        rw [upd_ne (ne_of_none e nl)]
        exact s1 b o e
      · exact ⟨s1, ls, e1, by omega⟩
    · rintro H1 ⟨s1, ls, e1, h1⟩
      rw [List.length_map] at h1
      -- return {..}
      intro d nd1
      have ndl : d ≠ l := fun z => by rw [z, e1] at nd1; cases nd1
      have s2 : Same H1 (upd H1 d (.dK [])) := fun b o e => by rw [upd_ne (ne_of_none e nd1)]; exact e
      refine ⟨_, rfl, _, rfl, a, rfl, ⟨_, s2.seq (s1.seq hS)⟩, fun c nc => ?_⟩
      have ncd : c ≠ d := fun z => by rw [z, upd_same] at nc; cases nc
      have nc1 : H1 c = none := by rw [upd_ne ncd] at nc; exact nc
      have ncl : l ≠ c := fun z => by rw [← z, e1] at nc1; cases nc1
      refine lc_list (K := K) (a := a) (xs := ns.map V.int) (fun i H' => Same (upd H1 d (.dK [])) H' ∧ ∃ cs : List Int, H' c = some (.lst (cs.map V.int)) ∧ cs.length ≤ i)
        ⟨fun b o e => by rw [upd_ne (ne_of_none e nc)]; exact e, [], upd_same, Nat.le_refl _⟩ (fun i H' _ ⟨s3, _⟩ => s3.seq (s2.seq (s1.seq hS))) ?_ ?_
      · rintro i x H' hx ⟨s3, cs, e3, h3⟩
        obtain ⟨z, rfl, hi⟩ := len_take_map hx
        refine ⟨rfl, ?_⟩
        refine ⟨_, rfl, z, rfl, _, e3, small1000 (by rw [List.length_map]; omega), ?_⟩
        refine ⟨fun b o e => ?_, cs ++ [_], by rw [upd_same, List.map_append]; rfl, by rw [List.length_append, List.length_singleton]; omega⟩
        rw [upd_ne (ne_of_none e nc)]
        exact s3 b o e
      · rintro H2 ⟨s3, cs, e3, h3⟩
        rw [List.length_map] at h3
        have ed : H2 d = some (.dK []) := s3 d _ upd_same
        have el : H2 l = some (.lst (ls.map V.int)) := s3 l _ (by rw [upd_ne ndl.symm]; exact e1)
        refine ⟨ed, dkv l c 0 0, rfl, (by show 4 ≤ 15; decide), ?_⟩
        rw [merged_eq]
        refine k d l c _ (fun b o e => ?_) (s1.free nd1) nl (s1.free nc1) ⟨ndl, ncd.symm, ncl, 0, 0, ls, cs, upd_same, by rw [upd_ne ndl.symm]; exact el, by rw [upd_ne ncd]; exact e3, by omega, by omega⟩
        have e' := s3 b o (s2 b o (s1 b o e))
        rw [upd_ne (ne_of_none (s1 b o e) nd1)]
        exact e'

section
variable {H : Hp} {d l c : Addr} {r t : Int}
theorem get_large (ed : H d = some (.dK (dkv l c r t))) : DGet H d (.str "large") (some (.ref l)) := by
  have q := DGet.k (k := (Sum.inr "large" : Key)) ed
  rw [v_large] at q
  exact q
theorem get_rest (ed : H d = some (.dK (dkv l c r t))) : DGet H d (.str "rest") (some (.int r)) := by
  have q := DGet.k (k := (Sum.inr "rest" : Key)) ed
  rw [v_rest] at q
  exact q
theorem get_cells (ed : H d = some (.dK (dkv l c r t))) : DGet H d (.str "cells") (some (.ref c)) := by
  have q := DGet.k (k := (Sum.inr "cells" : Key)) ed
  rw [v_cells] at q
  exact q
theorem get_turn (ed : H d = some (.dK (dkv l c r t))) : DGet H d (.str "turn") (some (.int t)) := by
  have q := DGet.k (k := (Sum.inr "turn" : Key)) ed
  rw [v_turn] at q
  exact q
theorem dkv_small : (dkv l c r t).length < sizeLine := small1000 (by show 4 ≤ 1000; decide)
theorem put_rest (x : Int) (ed : H d = some (.dK (dkv l c r t))) : DPut H d (.str "rest") (.int x) (upd H d (.dK (dkv l c x t))) := by
  have q := DPut.k (k := (Sum.inr "rest" : Key)) (v := .int x) ed dkv_small
  rw [p_rest] at q
  exact q
theorem put_turn (x : Int) (ed : H d = some (.dK (dkv l c r t))) : DPut H d (.str "turn") (.int x) (upd H d (.dK (dkv l c r x))) := by
  have q := DPut.k (k := (Sum.inr "turn" : Key)) (v := .int x) ed dkv_small
  rw [p_turn] at q
  exact q
theorem DrawAt.put (D : DrawAt H d l c) (r t : Int) : DrawAt (upd H d (.dK (dkv l c r t))) d l c := by
  obtain ⟨h1, h2, h3, r0, t0, ls, cs, ed, el, ec, q⟩ := D
  exact ⟨h1, h2, h3, r, t, ls, cs, upd_same, by rw [upd_ne h1.symm]; exact el, by rw [upd_ne h2.symm]; exact ec, q⟩
theorem But.put (o : HO) : But H (upd H d o) d l := fun b u e h _ => by rw [upd_ne h]; exact e
theorem DrawAt.same {H' : Hp} (D : DrawAt H d l c) (s : Same H H') : DrawAt H' d l c := by
  obtain ⟨h1, h2, h3, r0, t0, ls, cs, ed, el, ec, q⟩ := D
  exact ⟨h1, h2, h3, r0, t0, ls, cs, s _ _ ed, s _ _ el, s _ _ ec, q⟩
theorem But.same {H1 H' : Hp} (s : Same H1 H') (q : But H H1 d l) : But H H' d l := fun b u e h h' => s _ _ (q b u e h h')
end
def greats : List V := [.int 2147483629, .int 2147483587, .int 2147483579]
theorem great_of {i : Nat} {x : V} (h : greats[i]? = some x) : ∃ g : Int, x = .int g ∧ 0 < g ∧ g < 2147483648 := by
  match i, h with
  | 0, h => exact ⟨_, (Option.some.inj h).symm, by decide, by decide⟩
  | 1, h => exact ⟨_, (Option.some.inj h).symm, by decide, by decide⟩
  | 2, h => exact ⟨_, (Option.some.inj h).symm, by decide, by decide⟩
  | n + 3, h => cases h
theorem ok_mixed {f : Addr} {fd : FuncData} (F : Fun K "_law_mixed" "_law_mixed" sMixed f fd) (mI : mg "int" = none) : FnOk P w K mg base CX0 1 f fd ["draw"] spMixed := by
  refine F.ok scMixed (fun vs H Q E h => ?_) (fun cdv A outer s H vs Q E hr h => ?_)
  · obtain ⟨d, l, c, rfl, _⟩ := h
    rfl
  · obtain ⟨d, l, c, rfl, D, k⟩ := h
    have hu := hu_of hr
    have nd := scMixed.nd
    refine ⟨_, pss_cons (ps_dput hu (pv 0) pe_str (pe_op op_add (pe_dget hu (pv 0) pe_str (fun _ _ => rfl)) pe_int) rfl)
      (pss_cons (ps_par (i := 1) (j := 2) rfl nd rfl rfl (by decide) rfl rfl (pa_cons (pe_callTy call_int1 (by rfl) mI (by decide +kernel) (pa_cons (pe_dget hu (pv 0) pe_str (fun _ _ => rfl)) pa_nil)) (pa_cons pe_int pa_nil)) (by rfl))
      (pss_cons (ps_for PassesOwn.never rfl (pi_list (pe_lst (pa_cons pe_int (pa_cons pe_int (pa_cons pe_int pa_nil))))) (pg_name (i := 3) nd rfl (Or.inl rfl))
        (pss_cons (ps_set (i := 4) nd rfl (Or.inl rfl) (pe_op op_modN (pe_op op_add (pe_op op_mul (pv 1) pe_int) (pe_op op_fdiv (pv 3) pe_int)) (pv 3)))
        (pss_cons (ps_for PassesOwn.never rfl (pi_list (pe_dget hu (pv 0) pe_str (fun _ _ => rfl))) (pg_name (i := 5) nd rfl (Or.inl rfl))
          (pss_one (ps_set (i := 4) nd rfl (Or.inl rfl) (pe_op op_modN (pe_op op_add (pe_op op_mul (pv 4) pe_int) (pe_callTy call_int1 (by rfl) mI (by decide +kernel) (pa_cons (pv 5) pa_nil))) (pv 3)))))
        (pss_one (ps_set (i := 2) nd rfl (Or.inl rfl) (pe_op op_add (pe_op op_mul (pv 2) pe_int) (pe_op op_modN (pe_op op_pow (pv 4) pe_int) (pv 3))))))))
      (pss_one (ps_ret (pv 2))))), ?_⟩
    obtain ⟨_, _, _, r, t, ls, cs, ed, el, ec, hl, hc⟩ := id D
    refine ⟨_, rfl, d, _, rfl, get_turn ed, _, _, rfl, rfl, _, rfl, d, _, rfl, put_turn _ ed, ?_⟩
    have D1 := D.put r (t + 1)
    have B1 : But H (upd H d (.dK (dkv l c r (t + 1)))) d l := But.put _
    have ed1 : (upd H d (.dK (dkv l c r (t + 1)))) d = some (.dK (dkv l c r (t + 1))) := upd_same
    have ec1 : (upd H d (.dK (dkv l c r (t + 1)))) c = some (.lst (cs.map V.int)) := by rw [upd_ne D.dc.symm]; exact ec
    generalize upd H d (.dK (dkv l c r (t + 1))) = H1 at D1 B1 ed1 ec1 ⊢
    refine ⟨_, rfl, d, _, rfl, get_turn ed1, .inl ⟨_, rfl, _, _, rfl, ?_⟩⟩
    refine ⟨by show 3 ≤ sizeLine; decide, fun q nq => ?_⟩
    have s2 : Same H1 (upd H1 q (.lst greats)) := fun b o e => by rw [upd_ne (ne_of_none e nq)]; exact e
    refine ⟨q, rfl, ⟨_, SqL.of upd_same⟩, for_list (K := K) (a := q) (xs := greats) (fun i σ H' => ∃ (f : Int) (g3 g4 g5 : Option V), σ = [some (.ref d), some (.int (t + 1)), some (.int f), g3, g4, g5] ∧ Same H1 H' ∧ H' q = some (.lst greats))
      ⟨0, none, none, none, rfl, s2, upd_same⟩ (fun i σ H' _ ⟨_, _, _, _, _, _, e⟩ => SqL.of e) ?_ ?_⟩
    · rintro i x σ H' hx ⟨f, g3, g4, g5, rfl, s3, eq⟩
      obtain ⟨g, rfl, g0, g1⟩ := great_of hx
      refine ⟨_, rfl, _, _, rfl, rfl, .inr ⟨by decide, by decide⟩, _, rfl, _, _, rfl, rfl, ⟨by decide, by decide⟩, _, _, rfl, rfl, _, rfl, _, _, rfl, rfl, (by omega), ?_⟩
      have hb0 : 0 ≤ ((t + 1) * 69621 + g / 7).fmod g := Int.fmod_nonneg_of_pos _ g0
      have hb1 : ((t + 1) * 69621 + g / 7).fmod g < g := Int.fmod_lt_of_pos _ g0
      refine ⟨_, rfl, d, _, rfl, get_cells (s3 _ _ ed1), c, rfl, ⟨_, SqL.of (s3 _ _ ec1)⟩, for_list (K := K) (a := c) (xs := cs.map V.int) (fun j σ H2 => ∃ (b : Int) (g5 : Option V), σ = [some (.ref d), some (.int (t + 1)), some (.int f), some (.int g), some (.int b), g5] ∧ 0 ≤ b ∧ b < g ∧ H2 = H')
        ⟨_, g5, rfl, hb0, hb1, rfl⟩ (fun j σ H2 _ ⟨_, _, _, _, _, e⟩ => by rw [e]; exact SqL.of (s3 _ _ ec1)) ?_ ?_⟩
      · rintro j y σ H2 hy ⟨b, g5, rfl, b0, b1, rfl⟩
        obtain ⟨z, rfl, _⟩ := len_take_map hy
        refine ⟨_, rfl, _, _, rfl, rfl, .inr ⟨by decide, by decide⟩, _, rfl, .inl ⟨_, rfl, _, _, rfl, rfl, _, rfl, _, _, rfl, rfl, (by omega), ?_⟩⟩
        exact ⟨_, _, rfl, Int.fmod_nonneg_of_pos _ g0, Int.fmod_lt_of_pos _ g0, rfl⟩
      · rintro σ H2 ⟨b, g5, rfl, b0, b1, rfl⟩
        refine ⟨_, rfl, _, _, rfl, rfl, .inr ⟨by decide, by decide⟩, _, rfl, _, _, rfl, rfl, ⟨by decide, by decide, by omega⟩, _, rfl, _, _, rfl, rfl, (by omega), _, _, rfl, rfl, ?_⟩
        exact ⟨_, _, _, _, rfl, s3, eq⟩
    · rintro σ H' ⟨f, g3, g4, g5, rfl, s3, eq⟩
      exact ⟨_, rfl, k f _ (D1.same s3) (B1.same s3)⟩
theorem depth_ints : ∀ ls : List Int, PyData.depthAll (ls.map PyData.int) = 0
  | [] => by simp [PyData.depthAll]
  | x :: xs => by rw [List.map_cons, PyData.depthAll, depth_ints xs]; simp [PyData.depth]
theorem lay_ints : ∀ ls : List Int, PyData.canLayAll0 (ls.map PyData.int) = true
  | [] => by simp [PyData.canLayAll0]
  | x :: xs => by rw [List.map_cons, PyData.canLayAll0, lay_ints xs]; simp [PyData.canLay0]
theorem shaped_ints (ls : List Int) : SeqAt.shaped (.list (ls.map PyData.int)) = true := by
  unfold SeqAt.shaped
  rw [PyData.canLay0, lay_ints, PyData.depth, depth_ints]
  rfl
theorem dp_ints {K : PySem.W.Frag} {H : Hp} : ∀ ls : List Int, DpAll K H (ls.map V.int) (ls.map PyData.int)
  | [] => .nil
  | x :: xs => .cons (.int x) (dp_ints xs)
theorem ok_take {f fM : Addr} {fd fdM : FuncData} (F : Fun K "_law_take" "_law_take" sTake f fd) (mI : mg "int" = none) (FM : Fun K "_law_mixed" "_law_mixed" sMixed fM fdM) (bM : Binds K fdM ["draw"] [])
    (mM : mg "_law_mixed" = some (.ref fM)) : FnOk P w K mg base CX0 2 f fd ["draw", "amount"] spTake := by
  have GM : FnOk P w K mg base CX0 1 fM fdM ["draw"] spMixed := ok_mixed FM mI
  refine F.ok scTake (fun vs H Q E h => ?_) (fun cdv A outer s H vs Q E hr h => ?_)
  · obtain ⟨d, l, c, m, rfl, _⟩ := h
    rfl
  · obtain ⟨d, l, c, m, rfl, m0, m1, D, k⟩ := h
    have hu := hu_of hr
    have nd := scTake.nd
    refine ⟨_, pss_cons (ps_if (pt_cmpR op_eq (pe_dget hu (pv 0) pe_str (fun _ _ => rfl)) pe_int (nomark _))
        (pss_one (ps_dput hu (pv 0) pe_str (pe_ifExp (pt_cmpR (op_neD hr.units) (pe_dget hu (pv 0) pe_str (fun _ _ => rfl)) (pe_lst pa_nil) (nomark _))
          (pe_bm PySem.F.plainAttrs_list PySem.F.slot_list_pop PySem.F.type_list_pop mt_popAt (pe_dget hu (pv 0) pe_str (fun _ _ => rfl)) (pa_cons pe_int pa_nil))
          (pe_call GM hr rfl mM FM.kp bM .nil pass0 (pa_cons (pv 0) pa_nil))) rfl)) pss_nil)
      (pss_cons (ps_set (i := 2) nd rfl (Or.inl rfl) (pe_op op_mod (pe_callTy call_int1 (by rfl) mI (by decide +kernel) (pa_cons (pe_dget hu (pv 0) pe_str (fun _ _ => rfl)) pa_nil)) (pv 1)))
      (pss_cons (ps_dput hu (pv 0) pe_str (pe_op op_fdiv (pe_callTy call_int1 (by rfl) mI (by decide +kernel) (pa_cons (pe_dget hu (pv 0) pe_str (fun _ _ => rfl)) pa_nil)) (pv 1)) rfl)
      (pss_one (ps_ret (pv 2))))), ?_⟩
    obtain ⟨_, _, _, r, t, ls, cs, ed, el, ec, hl, hc⟩ := id D
    refine ⟨_, rfl, d, _, rfl, get_rest ed, rfl, _, rfl, ?_⟩
    refine ite2 (fun _ => ?_) (fun _ => ?_)
    · refine ⟨_, rfl, d, _, rfl, get_large ed, Nat.zero_le _, fun q nq => ?_⟩
      have sq : Same H (upd H q (.lst [])) := fun b o e => by rw [upd_ne (ne_of_none e nq)]; exact e
      have Dq : DrawAt (upd H q (.lst [])) d l c := D.same sq
      have Bq : But H (upd H q (.lst [])) d l := But.same sq (But.refl _ _ _)
      have eq := sq _ _ ed
      have eql := sq _ _ el
      have ecq := sq _ _ ec
      refine ⟨.list (ls.map PyData.int), .list [], .lst (SqL.of eql) (dp_ints ls), .lst (SqL.of upd_same) .nil, shaped_ints ls, rfl, _, rfl, ?_⟩
      generalize upd H q (.lst []) = H1 at Dq Bq eq eql ecq ⊢
      cases ls with
      | nil =>
        refine iteF ?_
        refine ⟨_, rfl, d, l, c, rfl, Dq, fun n H2 D2 B2 => ?_⟩
        obtain ⟨_, _, _, r2, t2, ls2, cs2, ed2, _⟩ := id D2
        refine ⟨_, rfl, d, _, rfl, put_rest n ed2, ?_⟩
        have D1 := D2.put n t2
        have B1 : But H (upd H2 d (.dK (dkv l c n t2))) d l := (Bq.trans B2).trans (But.put _)
        have ed1 : (upd H2 d (.dK (dkv l c n t2))) d = some (.dK (dkv l c n t2)) := upd_same
        generalize upd H2 d (.dK (dkv l c n t2)) = H3 at D1 B1 ed1 ⊢
        exact ⟨_, rfl, d, _, rfl, get_rest ed1, .inl ⟨_, rfl, _, rfl, _, _, rfl, rfl, m0, _, rfl, d, _, rfl, get_rest ed1, .inl ⟨_, rfl, _, rfl, _, _, rfl, rfl, ⟨m0, by omega⟩, _, rfl, d, _, rfl, put_rest _ ed1, _, rfl, k _ _ (Int.emod_nonneg _ (by omega)) (Int.emod_lt_of_pos _ m0) (D1.put _ _) (B1.trans (But.put _))⟩⟩⟩
      | cons z zs =>
        refine iteT ?_
        refine ⟨_, rfl, d, _, rfl, get_large eq, .inl ⟨rfl, _, SqL.of eql⟩, l, _, 0, 0, .int z, rfl, rfl, eql, by decide, by decide, by simp [seqIndex?], rfl, ?_⟩
        have Dw : DrawAt (upd H1 l (.lst (zs.map V.int))) d l c := ⟨D.dl, D.dc, D.lc, r, t, zs, cs, by rw [upd_ne D.dl]; exact eq, upd_same, by rw [upd_ne D.lc.symm]; exact ecq, by simp at hl; omega, hc⟩
        have Bw : But H1 (upd H1 l (.lst (zs.map V.int))) d l := fun b o e _ h => by rw [upd_ne h]; exact e
        have edw : (upd H1 l (.lst (zs.map V.int))) d = some (.dK (dkv l c r t)) := by rw [upd_ne D.dl]; exact eq
        refine ⟨_, rfl, d, _, rfl, put_rest z edw, ?_⟩
        have D1 := Dw.put z t
        have B1 : But H (upd (upd H1 l (.lst (zs.map V.int))) d (.dK (dkv l c z t))) d l := (Bq.trans Bw).trans (But.put _)
        have ed1 : (upd (upd H1 l (.lst (zs.map V.int))) d (.dK (dkv l c z t))) d = some (.dK (dkv l c z t)) := upd_same
        exact ⟨_, rfl, d, _, rfl, get_rest ed1, .inl ⟨_, rfl, _, rfl, _, _, rfl, rfl, m0, _, rfl, d, _, rfl, get_rest ed1, .inl ⟨_, rfl, _, rfl, _, _, rfl, rfl, ⟨m0, by omega⟩, _, rfl, d, _, rfl, put_rest _ ed1, _, rfl, k _ _ (Int.emod_nonneg _ (by omega)) (Int.emod_lt_of_pos _ m0) (D1.put _ _) (B1.trans (But.put _))⟩⟩⟩
    · have D1 := D
      have B1 : But H H d l := But.refl _ _ _
      have ed1 := ed
      exact ⟨_, rfl, d, _, rfl, get_rest ed1, .inl ⟨_, rfl, _, rfl, _, _, rfl, rfl, m0, _, rfl, d, _, rfl, get_rest ed1, .inl ⟨_, rfl, _, rfl, _, _, rfl, rfl, ⟨m0, by omega⟩, _, rfl, d, _, rfl, put_rest _ ed1, _, rfl, k _ _ (Int.emod_nonneg _ (by omega)) (Int.emod_lt_of_pos _ m0) (D1.put _ _) (B1.trans (But.put _))⟩⟩⟩
theorem ok_pick {f fT : Addr} {fd fdT : FuncData} (F : Fun K "_law_pick" "_law_pick" sPick f fd) (mL : mg "len" = none) (GT : FnOk P w K mg base CX0 2 fT fdT ["draw", "amount"] spTake) (kT : PySem.W.keepIn K (.ref fT) = true)
    (bT : Binds K fdT ["draw", "amount"] []) (mT : mg "_law_take" = some (.ref fT)) : FnOk P w K mg base CX0 3 f fd ["draw", "some"] (spPick K) := by
  refine F.ok scPick (fun vs H Q E h => ?_) (fun cdv A outer s H vs Q E hr h => ?_)
  · obtain ⟨d, l, c, a, xs, rfl, _⟩ := h
    rfl
  · obtain ⟨d, l, c, a, xs, rfl, ea, ad, al, x0, x1, D, k⟩ := h
    have hu := hu_of hr
    refine ⟨_, pss_one (ps_ret (pe_ix ix_list (pv 1) (pe_call GT hr rfl mT kT bT .nil pass0 (pa_cons (pv 0) (pa_cons (pe_callB call_len_seq (by rfl) mL PySem.boot_len (pa_cons (pv 1) pa_nil)) pa_nil))) (fun _ _ => rfl))), ?_⟩
    refine ⟨_, rfl, _, rfl, _, rfl, a, _, rfl, .inl (SqL.of ea), d, l, c, _, rfl, by omega, by omega, D, fun n H' n0 n1 D' B' => ?_⟩
    have en : ((n.toNat : Nat) : Int) = n := Int.toNat_of_nonneg n0
    have hn : n.toNat < xs.length := by omega
    refine ⟨a, xs, n, xs[n.toNat], rfl, rfl, SqL.of (B' a _ ea ad al), (by have q := atI_nat (List.getElem?_eq_getElem hn); rw [en] at q; exact q), k n.toNat _ H' (List.getElem?_eq_getElem hn) D' B'⟩
end
end Dr
namespace K0
open PySem PySem.Spec PyProof.Rows L2
def topS (i : Nat) : Stmt := PySem.Challenge.pw_playsalike_k00_errors_of_all_parts.main.body.getD i (.Pass ⟨0, 0, 0, 0⟩)
abbrev sAny : Stmt := topS 45
abbrev sKinds : Stmt := topS 46
abbrev sPlain : Stmt := topS 47
abbrev sThrees : Stmt := topS 48
abbrev sLaw : Stmt := topS 49
def nms : List Str := [PySem.Str.ofString "BadSort", PySem.Str.ofString "BadPlaces", PySem.Str.ofString "BadBoxes", PySem.Str.ofString "BadStarts", PySem.Str.ofString "BadWord", PySem.Str.ofString "BadEdit", PySem.Str.ofString "BadLot", PySem.Str.ofString "BadQuestion", PySem.Str.ofString "BadDeed", PySem.Str.ofString "BadBench", PySem.Str.ofString "BadLetters", PySem.Str.ofString "BadLetter", PySem.Str.ofString "BadRow", PySem.Str.ofString "BadNames", PySem.Str.ofString "BadPlace", PySem.Str.ofString "BadRules", PySem.Str.ofString "BadMove", PySem.Str.ofString "BadDigits", PySem.Str.ofString "BadGivings", PySem.Str.ofString "BadHouse", PySem.Str.ofString "BadBytes", PySem.Str.ofString "BadScribe", PySem.Str.ofString "BadClaims", PySem.Str.ofString "BadWords", PySem.Str.ofString "BadPlay", PySem.Str.ofString "BadPieces", PySem.Str.ofString "BadNumber", PySem.Str.ofString "BadTerm", PySem.Str.ofString "BadPiece", PySem.Str.ofString "TooMany", PySem.Str.ofString "BadBook", PySem.Str.ofString "NotLet", PySem.Str.ofString "BadLine", PySem.Str.ofString "BadMachine", PySem.Str.ofString "BadRule", PySem.Str.ofString "BadLog", PySem.Str.ofString "BadText", PySem.Str.ofString "BadAround"]
def pns : List Str := [PySem.Str.ofString "part", PySem.Str.ofString "at", PySem.Str.ofString "part", PySem.Str.ofString "most", PySem.Str.ofString "part", PySem.Str.ofString "why", PySem.Str.ofString "number", PySem.Str.ofString "part", PySem.Str.ofString "part", PySem.Str.ofString "at", PySem.Str.ofString "at", PySem.Str.ofString "part"]
theorem scAny : FnScope ["draw", "some"] ["draw"] (defScope sAny) := ⟨rfl, rfl, rfl, by decide +kernel, rfl, by decide +kernel, by decide +kernel⟩
theorem scKinds : FnScope ["error", "found"] ["error"] (defScope sKinds) := ⟨rfl, rfl, rfl, by decide +kernel, rfl, by decide +kernel, by decide +kernel⟩
theorem scPlain : FnScope ["words_here", "found"] ["words_here"] (defScope sPlain) := ⟨rfl, rfl, rfl, by decide +kernel, rfl, by decide +kernel, by decide +kernel⟩
theorem scThrees : FnScope ["each", "found"] ["each"] (defScope sThrees) := ⟨rfl, rfl, rfl, by decide +kernel, rfl, by decide +kernel, by decide +kernel⟩
abbrev lawN : List Str := ["script", "draw", "words_here", "each", "threes_here", "errors_here", "spot", "error", "base_here", "item", "k"]
theorem scLaw : FnScope lawN ["script"] (defScope sLaw) := ⟨rfl, rfl, rfl, by decide +kernel, rfl, by decide +kernel, by decide +kernel⟩

/-- what the top has written of the errors: the class of the i-th one stands at c i, PlayError at cP, the __init__ of those with a field at fI i -/
structure Txt (P : Program) (K : PySem.W.Frag) (mg : Str → Option Value) (c : Nat → Addr) (cP : Addr) (fI : Nat → Addr) : Prop where
  mgs : ∀ i x, nms[i]? = some x → mg x = some (.ref (c i))
  kit : ∀ i j, i < 38 → j < 38 → PySem.W.kitOne K (.ref (c i)) (.ref (c j)) = some (decide (i = j))
  exc : ∀ i, i < 38 → ExcC K (c i)
  kitP : ∀ i, i < 38 → PySem.W.kitOne K (.ref (c i)) (.ref cP) = some true
  kitV : ∀ i, i < 38 → PySem.W.kitOne K (.ref (c i)) (.type "ValueError") = some true
  mgP : mg "PlayError" = some (.ref cP)
  excP : ExcC K cP
  pKit : ∀ j, j < 38 → PySem.W.kitOne K (.ref cP) (.ref (c j)) = some false
  pV : PySem.W.kitOne K (.ref cP) (.type "ValueError") = some true
  plain : ∀ i, i < 26 → PySem.W.excIn K (c i) [.type "ValueError", .type "Exception", .type "BaseException", .type "object"] "ValueError.__new__" = true ∧ PySem.W.keepIn K (.ref (c i)) = true
  plainP : PySem.W.excIn K cP [.type "ValueError", .type "Exception", .type "BaseException", .type "object"] "ValueError.__new__" = true ∧ PySem.W.keepIn K (.ref cP) = true
  err : ∀ i x, pns[i]? = some x → Er.ErrTxt P K mg (c (26 + i)) (fI i) x
  isi : mg "isinstance" = none
  range : mg "range" = none
  enum : mg "enumerate" = none
  repr : mg "repr" = none
  ve : mg "ValueError" = none
section
variable {P : Program} {w : World} {K : PySem.W.Frag} {mg : Str → Option Value} {base : Heap} {c : Nat → Addr} {cP : Addr} {fI : Nat → Addr}
theorem _root_.L2.IsErr.same {H H' : Hp} {a C : Addr} (e : IsErr H a C) (s : Same H H') : IsErr H' a C := by
  rcases e with e | ⟨d, pn, v, e, ed⟩
  · exact .inl (s _ _ e)
  · exact .inr ⟨d, pn, v, s _ _ e, s _ _ ed⟩
theorem new_same {H : Hp} {p : Addr} {o : HO} (n : H p = none) : Same H (upd H p o) := fun b x e => by rw [upd_ne (ne_of_none e n)]; exact e
theorem is1 {σ : L2.St} {H : Hp} {Q : VK} {a C cc : Addr} {b : Bool} {i : Nat} (h0 : σ[i]? = some (some (V.ref a))) (he : IsErr H a C) (TC : ExcC K C) (kit : PySem.W.kitOne K (.ref C) (.ref cc) = some b) (q : Q (.bl b) H) :
    tCB (rIsV K) (tCons (tVar i) (tCons (tC (V.ref cc)) tNil)) σ H Q := ⟨_, h0, a, C, _, _, _, rfl, he, TC, fun u h => h, kit, q⟩
theorem isTy {σ : L2.St} {H : Hp} {Q : VK} {a C : Addr} {b : Bool} {i : Nat} {n : String} (h0 : σ[i]? = some (some (V.ref a))) (he : IsErr H a C) (TC : ExcC K C) (kit : PySem.W.kitOne K (.ref C) (.type n) = some b) (q : Q (.bl b) H) :
    tCB (rIsV K) (tCons (tVar i) (tCons (tC (V.ty n)) tNil)) σ H Q := ⟨_, h0, a, C, _, _, _, rfl, he, TC, fun u h => h, kit, q⟩
/-- found = found + [..], the items as they are read -/
theorem cat_step {D : Ends} {v : V} {p : Addr} {H1 : Hp} {xs : List V} {ts : TA} {R : List V → Hp → Prop} (hp : H1 p = some (.lst xs)) (read : ∀ Q : List V → Hp → Prop, (∀ ys H2, Same H1 H2 → R ys H2 → Q ys H2) → ts [some v, some (.ref p)] H1 Q)
    (small : ∀ ys H2, R ys H2 → xs.length + ys.length ≤ 1000) (go : ∀ ys q H2 H3, Same H1 H2 → R ys H2 → Same H2 H3 → H3 q = some (.lst (xs ++ ys)) → D.nx [some v, some (.ref q)] H3) :
    tAsg (tOp rCat (tVar 1) (tLst ts)) (gName 1) D [some v, some (.ref p)] H1 := by
  refine ⟨_, rfl, read _ fun ys H2 s2 r => ?_⟩
  have z := small ys H2 r
  refine ⟨Nat.le_of_lt (small1000 (by omega)), fun q nq => ?_⟩
  have sq : Same H2 (upd H2 q (.lst ys)) := new_same nq
  refine ⟨p, q, xs, ys, rfl, rfl, sq _ _ (s2 _ _ hp), upd_same, Nat.le_of_lt (small1000 z), fun u nu => ?_⟩
  exact go ys u H2 _ s2 r (sq.trans (new_same nu)) upd_same
/-- _law_kinds tells of which of the classes an error is -/
def spKinds (K : PySem.W.Frag) (c : Nat → Addr) : Sp := fun vs H Q _ => ∃ (a C : Addr) (b : Nat → Bool), vs = [.ref a] ∧ IsErr H a C ∧ ExcC K C ∧ (∀ j, j < 38 → PySem.W.kitOne K (.ref C) (.ref (c j)) = some (b j)) ∧
  ∀ (p : Addr) (H' : Hp), Same H H' → H' p = some (.lst ((List.range 38).map fun j => V.bl (b j))) → Q (.ref p) H'
theorem cat_flat {D : Ends} {v : V} {p : Addr} {H1 : Hp} {xs ys : List V} {ts : TA} (hp : H1 p = some (.lst xs)) (read : ∀ Q : List V → Hp → Prop, Q ys H1 → ts [some v, some (.ref p)] H1 Q)
    (small : xs.length + ys.length ≤ 1000) (go : ∀ q H3, Same H1 H3 → H3 q = some (.lst (xs ++ ys)) → D.nx [some v, some (.ref q)] H3) :
    tAsg (tOp rCat (tVar 1) (tLst ts)) (gName 1) D [some v, some (.ref p)] H1 :=
  cat_step (R := fun zs H2 => zs = ys ∧ H2 = H1) hp (fun Q q => read Q (q ys H1 (Same.refl _) ⟨rfl, rfl⟩)) (fun _ _ r => by rw [r.1]; exact small) fun zs q H2 H3 _ r s e => by
    obtain ⟨rfl, rfl⟩ := r
    exact go q H3 s e

theorem ok_kinds {f : Addr} {fd : FuncData} (F : Fun K "_law_kinds" "_law_kinds" sKinds f fd) (T : Txt P K mg c cP fI) : FnOk P w K mg base CX0 1 f fd ["error"] (spKinds K c) := by
  refine F.ok scKinds (fun vs H Q E h => ?_) (fun cdv A outer s H vs Q E hr h => ?_)
  · obtain ⟨a, C, b, rfl, _⟩ := h
    rfl
  · obtain ⟨a, C, b, rfl, he, TC, kit, k⟩ := h
    have nd := scKinds.nd
    refine ⟨_, (pss_cons (ps_set (i := 1) nd rfl (Or.inl rfl) (pe_lst pa_nil))
      (pss_cons (ps_set (i := 1) nd rfl (Or.inl rfl) (pe_op op_cat (pv 1) (pe_lst (pa_cons (pe_callB call_isV (by rfl) T.isi (by decide +kernel) (pa_cons (pv 0) (pa_cons (pe_glob (v := V.ref (c 0)) (by rfl) (T.mgs 0 _ rfl) rfl) pa_nil))) (pa_cons (pe_callB call_isV (by rfl) T.isi (by decide +kernel) (pa_cons (pv 0) (pa_cons (pe_glob (v := V.ref (c 1)) (by rfl) (T.mgs 1 _ rfl) rfl) pa_nil))) (pa_cons (pe_callB call_isV (by rfl) T.isi (by decide +kernel) (pa_cons (pv 0) (pa_cons (pe_glob (v := V.ref (c 2)) (by rfl) (T.mgs 2 _ rfl) rfl) pa_nil))) pa_nil))))))
      (pss_cons (ps_set (i := 1) nd rfl (Or.inl rfl) (pe_op op_cat (pv 1) (pe_lst (pa_cons (pe_callB call_isV (by rfl) T.isi (by decide +kernel) (pa_cons (pv 0) (pa_cons (pe_glob (v := V.ref (c 3)) (by rfl) (T.mgs 3 _ rfl) rfl) pa_nil))) (pa_cons (pe_callB call_isV (by rfl) T.isi (by decide +kernel) (pa_cons (pv 0) (pa_cons (pe_glob (v := V.ref (c 4)) (by rfl) (T.mgs 4 _ rfl) rfl) pa_nil))) (pa_cons (pe_callB call_isV (by rfl) T.isi (by decide +kernel) (pa_cons (pv 0) (pa_cons (pe_glob (v := V.ref (c 5)) (by rfl) (T.mgs 5 _ rfl) rfl) pa_nil))) pa_nil))))))
      (pss_cons (ps_set (i := 1) nd rfl (Or.inl rfl) (pe_op op_cat (pv 1) (pe_lst (pa_cons (pe_callB call_isV (by rfl) T.isi (by decide +kernel) (pa_cons (pv 0) (pa_cons (pe_glob (v := V.ref (c 6)) (by rfl) (T.mgs 6 _ rfl) rfl) pa_nil))) (pa_cons (pe_callB call_isV (by rfl) T.isi (by decide +kernel) (pa_cons (pv 0) (pa_cons (pe_glob (v := V.ref (c 7)) (by rfl) (T.mgs 7 _ rfl) rfl) pa_nil))) (pa_cons (pe_callB call_isV (by rfl) T.isi (by decide +kernel) (pa_cons (pv 0) (pa_cons (pe_glob (v := V.ref (c 8)) (by rfl) (T.mgs 8 _ rfl) rfl) pa_nil))) pa_nil))))))
      (pss_cons (ps_set (i := 1) nd rfl (Or.inl rfl) (pe_op op_cat (pv 1) (pe_lst (pa_cons (pe_callB call_isV (by rfl) T.isi (by decide +kernel) (pa_cons (pv 0) (pa_cons (pe_glob (v := V.ref (c 9)) (by rfl) (T.mgs 9 _ rfl) rfl) pa_nil))) (pa_cons (pe_callB call_isV (by rfl) T.isi (by decide +kernel) (pa_cons (pv 0) (pa_cons (pe_glob (v := V.ref (c 10)) (by rfl) (T.mgs 10 _ rfl) rfl) pa_nil))) (pa_cons (pe_callB call_isV (by rfl) T.isi (by decide +kernel) (pa_cons (pv 0) (pa_cons (pe_glob (v := V.ref (c 11)) (by rfl) (T.mgs 11 _ rfl) rfl) pa_nil))) pa_nil))))))
      (pss_cons (ps_set (i := 1) nd rfl (Or.inl rfl) (pe_op op_cat (pv 1) (pe_lst (pa_cons (pe_callB call_isV (by rfl) T.isi (by decide +kernel) (pa_cons (pv 0) (pa_cons (pe_glob (v := V.ref (c 12)) (by rfl) (T.mgs 12 _ rfl) rfl) pa_nil))) (pa_cons (pe_callB call_isV (by rfl) T.isi (by decide +kernel) (pa_cons (pv 0) (pa_cons (pe_glob (v := V.ref (c 13)) (by rfl) (T.mgs 13 _ rfl) rfl) pa_nil))) (pa_cons (pe_callB call_isV (by rfl) T.isi (by decide +kernel) (pa_cons (pv 0) (pa_cons (pe_glob (v := V.ref (c 14)) (by rfl) (T.mgs 14 _ rfl) rfl) pa_nil))) pa_nil))))))
      (pss_cons (ps_set (i := 1) nd rfl (Or.inl rfl) (pe_op op_cat (pv 1) (pe_lst (pa_cons (pe_callB call_isV (by rfl) T.isi (by decide +kernel) (pa_cons (pv 0) (pa_cons (pe_glob (v := V.ref (c 15)) (by rfl) (T.mgs 15 _ rfl) rfl) pa_nil))) (pa_cons (pe_callB call_isV (by rfl) T.isi (by decide +kernel) (pa_cons (pv 0) (pa_cons (pe_glob (v := V.ref (c 16)) (by rfl) (T.mgs 16 _ rfl) rfl) pa_nil))) (pa_cons (pe_callB call_isV (by rfl) T.isi (by decide +kernel) (pa_cons (pv 0) (pa_cons (pe_glob (v := V.ref (c 17)) (by rfl) (T.mgs 17 _ rfl) rfl) pa_nil))) pa_nil))))))
      (pss_cons (ps_set (i := 1) nd rfl (Or.inl rfl) (pe_op op_cat (pv 1) (pe_lst (pa_cons (pe_callB call_isV (by rfl) T.isi (by decide +kernel) (pa_cons (pv 0) (pa_cons (pe_glob (v := V.ref (c 18)) (by rfl) (T.mgs 18 _ rfl) rfl) pa_nil))) (pa_cons (pe_callB call_isV (by rfl) T.isi (by decide +kernel) (pa_cons (pv 0) (pa_cons (pe_glob (v := V.ref (c 19)) (by rfl) (T.mgs 19 _ rfl) rfl) pa_nil))) (pa_cons (pe_callB call_isV (by rfl) T.isi (by decide +kernel) (pa_cons (pv 0) (pa_cons (pe_glob (v := V.ref (c 20)) (by rfl) (T.mgs 20 _ rfl) rfl) pa_nil))) pa_nil))))))
      (pss_cons (ps_set (i := 1) nd rfl (Or.inl rfl) (pe_op op_cat (pv 1) (pe_lst (pa_cons (pe_callB call_isV (by rfl) T.isi (by decide +kernel) (pa_cons (pv 0) (pa_cons (pe_glob (v := V.ref (c 21)) (by rfl) (T.mgs 21 _ rfl) rfl) pa_nil))) (pa_cons (pe_callB call_isV (by rfl) T.isi (by decide +kernel) (pa_cons (pv 0) (pa_cons (pe_glob (v := V.ref (c 22)) (by rfl) (T.mgs 22 _ rfl) rfl) pa_nil))) (pa_cons (pe_callB call_isV (by rfl) T.isi (by decide +kernel) (pa_cons (pv 0) (pa_cons (pe_glob (v := V.ref (c 23)) (by rfl) (T.mgs 23 _ rfl) rfl) pa_nil))) pa_nil))))))
      (pss_cons (ps_set (i := 1) nd rfl (Or.inl rfl) (pe_op op_cat (pv 1) (pe_lst (pa_cons (pe_callB call_isV (by rfl) T.isi (by decide +kernel) (pa_cons (pv 0) (pa_cons (pe_glob (v := V.ref (c 24)) (by rfl) (T.mgs 24 _ rfl) rfl) pa_nil))) (pa_cons (pe_callB call_isV (by rfl) T.isi (by decide +kernel) (pa_cons (pv 0) (pa_cons (pe_glob (v := V.ref (c 25)) (by rfl) (T.mgs 25 _ rfl) rfl) pa_nil))) (pa_cons (pe_callB call_isV (by rfl) T.isi (by decide +kernel) (pa_cons (pv 0) (pa_cons (pe_glob (v := V.ref (c 26)) (by rfl) (T.mgs 26 _ rfl) rfl) pa_nil))) pa_nil))))))
      (pss_cons (ps_set (i := 1) nd rfl (Or.inl rfl) (pe_op op_cat (pv 1) (pe_lst (pa_cons (pe_callB call_isV (by rfl) T.isi (by decide +kernel) (pa_cons (pv 0) (pa_cons (pe_glob (v := V.ref (c 27)) (by rfl) (T.mgs 27 _ rfl) rfl) pa_nil))) (pa_cons (pe_callB call_isV (by rfl) T.isi (by decide +kernel) (pa_cons (pv 0) (pa_cons (pe_glob (v := V.ref (c 28)) (by rfl) (T.mgs 28 _ rfl) rfl) pa_nil))) (pa_cons (pe_callB call_isV (by rfl) T.isi (by decide +kernel) (pa_cons (pv 0) (pa_cons (pe_glob (v := V.ref (c 29)) (by rfl) (T.mgs 29 _ rfl) rfl) pa_nil))) pa_nil))))))
      (pss_cons (ps_set (i := 1) nd rfl (Or.inl rfl) (pe_op op_cat (pv 1) (pe_lst (pa_cons (pe_callB call_isV (by rfl) T.isi (by decide +kernel) (pa_cons (pv 0) (pa_cons (pe_glob (v := V.ref (c 30)) (by rfl) (T.mgs 30 _ rfl) rfl) pa_nil))) (pa_cons (pe_callB call_isV (by rfl) T.isi (by decide +kernel) (pa_cons (pv 0) (pa_cons (pe_glob (v := V.ref (c 31)) (by rfl) (T.mgs 31 _ rfl) rfl) pa_nil))) (pa_cons (pe_callB call_isV (by rfl) T.isi (by decide +kernel) (pa_cons (pv 0) (pa_cons (pe_glob (v := V.ref (c 32)) (by rfl) (T.mgs 32 _ rfl) rfl) pa_nil))) pa_nil))))))
      (pss_cons (ps_set (i := 1) nd rfl (Or.inl rfl) (pe_op op_cat (pv 1) (pe_lst (pa_cons (pe_callB call_isV (by rfl) T.isi (by decide +kernel) (pa_cons (pv 0) (pa_cons (pe_glob (v := V.ref (c 33)) (by rfl) (T.mgs 33 _ rfl) rfl) pa_nil))) (pa_cons (pe_callB call_isV (by rfl) T.isi (by decide +kernel) (pa_cons (pv 0) (pa_cons (pe_glob (v := V.ref (c 34)) (by rfl) (T.mgs 34 _ rfl) rfl) pa_nil))) (pa_cons (pe_callB call_isV (by rfl) T.isi (by decide +kernel) (pa_cons (pv 0) (pa_cons (pe_glob (v := V.ref (c 35)) (by rfl) (T.mgs 35 _ rfl) rfl) pa_nil))) pa_nil))))))
      (pss_cons (ps_set (i := 1) nd rfl (Or.inl rfl) (pe_op op_cat (pv 1) (pe_lst (pa_cons (pe_callB call_isV (by rfl) T.isi (by decide +kernel) (pa_cons (pv 0) (pa_cons (pe_glob (v := V.ref (c 36)) (by rfl) (T.mgs 36 _ rfl) rfl) pa_nil))) (pa_cons (pe_callB call_isV (by rfl) T.isi (by decide +kernel) (pa_cons (pv 0) (pa_cons (pe_glob (v := V.ref (c 37)) (by rfl) (T.mgs 37 _ rfl) rfl) pa_nil))) pa_nil)))))
      (pss_one (ps_ret (pv 1))))))))))))))))), ?_⟩
    refine ⟨Nat.zero_le _, fun p0 n0 => ?_⟩
    have s0 : Same H (upd H p0 (.lst [])) := new_same n0
    have e0 : (upd H p0 (.lst [])) p0 = some (.lst []) := upd_same
    have he0 := he.same s0
    generalize upd H p0 (.lst []) = H0 at s0 e0 he0 ⊢

    refine cat_flat (ys := [V.bl (b 0), V.bl (b 1), V.bl (b 2)]) e0 (fun Q q => is1 rfl he0 TC (kit 0 (by decide)) (is1 rfl he0 TC (kit 1 (by decide)) (is1 rfl he0 TC (kit 2 (by decide)) (q)))) (by show 3 ≤ 1000; decide) fun p1 H1 s1 e1 => ?_
    have he1 := he0.same s1
    replace s1 := s0.trans s1
    refine cat_flat (ys := [V.bl (b 3), V.bl (b 4), V.bl (b 5)]) e1 (fun Q q => is1 rfl he1 TC (kit 3 (by decide)) (is1 rfl he1 TC (kit 4 (by decide)) (is1 rfl he1 TC (kit 5 (by decide)) (q)))) (by show 6 ≤ 1000; decide) fun p2 H2 s2 e2 => ?_
    have he2 := he1.same s2
    replace s2 := s1.trans s2
    refine cat_flat (ys := [V.bl (b 6), V.bl (b 7), V.bl (b 8)]) e2 (fun Q q => is1 rfl he2 TC (kit 6 (by decide)) (is1 rfl he2 TC (kit 7 (by decide)) (is1 rfl he2 TC (kit 8 (by decide)) (q)))) (by show 9 ≤ 1000; decide) fun p3 H3 s3 e3 => ?_
    have he3 := he2.same s3
    replace s3 := s2.trans s3
    refine cat_flat (ys := [V.bl (b 9), V.bl (b 10), V.bl (b 11)]) e3 (fun Q q => is1 rfl he3 TC (kit 9 (by decide)) (is1 rfl he3 TC (kit 10 (by decide)) (is1 rfl he3 TC (kit 11 (by decide)) (q)))) (by show 12 ≤ 1000; decide) fun p4 H4 s4 e4 => ?_
    have he4 := he3.same s4
    replace s4 := s3.trans s4
    refine cat_flat (ys := [V.bl (b 12), V.bl (b 13), V.bl (b 14)]) e4 (fun Q q => is1 rfl he4 TC (kit 12 (by decide)) (is1 rfl he4 TC (kit 13 (by decide)) (is1 rfl he4 TC (kit 14 (by decide)) (q)))) (by show 15 ≤ 1000; decide) fun p5 H5 s5 e5 => ?_
    have he5 := he4.same s5
    replace s5 := s4.trans s5
    refine cat_flat (ys := [V.bl (b 15), V.bl (b 16), V.bl (b 17)]) e5 (fun Q q => is1 rfl he5 TC (kit 15 (by decide)) (is1 rfl he5 TC (kit 16 (by decide)) (is1 rfl he5 TC (kit 17 (by decide)) (q)))) (by show 18 ≤ 1000; decide) fun p6 H6 s6 e6 => ?_
    have he6 := he5.same s6
    replace s6 := s5.trans s6
    refine cat_flat (ys := [V.bl (b 18), V.bl (b 19), V.bl (b 20)]) e6 (fun Q q => is1 rfl he6 TC (kit 18 (by decide)) (is1 rfl he6 TC (kit 19 (by decide)) (is1 rfl he6 TC (kit 20 (by decide)) (q)))) (by show 21 ≤ 1000; decide) fun p7 H7 s7 e7 => ?_
    have he7 := he6.same s7
    replace s7 := s6.trans s7
    refine cat_flat (ys := [V.bl (b 21), V.bl (b 22), V.bl (b 23)]) e7 (fun Q q => is1 rfl he7 TC (kit 21 (by decide)) (is1 rfl he7 TC (kit 22 (by decide)) (is1 rfl he7 TC (kit 23 (by decide)) (q)))) (by show 24 ≤ 1000; decide) fun p8 H8 s8 e8 => ?_
    have he8 := he7.same s8
    replace s8 := s7.trans s8
    refine cat_flat (ys := [V.bl (b 24), V.bl (b 25), V.bl (b 26)]) e8 (fun Q q => is1 rfl he8 TC (kit 24 (by decide)) (is1 rfl he8 TC (kit 25 (by decide)) (is1 rfl he8 TC (kit 26 (by decide)) (q)))) (by show 27 ≤ 1000; decide) fun p9 H9 s9 e9 => ?_
    have he9 := he8.same s9
    replace s9 := s8.trans s9
    refine cat_flat (ys := [V.bl (b 27), V.bl (b 28), V.bl (b 29)]) e9 (fun Q q => is1 rfl he9 TC (kit 27 (by decide)) (is1 rfl he9 TC (kit 28 (by decide)) (is1 rfl he9 TC (kit 29 (by decide)) (q)))) (by show 30 ≤ 1000; decide) fun p10 H10 s10 e10 => ?_
    have he10 := he9.same s10
    replace s10 := s9.trans s10
    refine cat_flat (ys := [V.bl (b 30), V.bl (b 31), V.bl (b 32)]) e10 (fun Q q => is1 rfl he10 TC (kit 30 (by decide)) (is1 rfl he10 TC (kit 31 (by decide)) (is1 rfl he10 TC (kit 32 (by decide)) (q)))) (by show 33 ≤ 1000; decide) fun p11 H11 s11 e11 => ?_
    have he11 := he10.same s11
    replace s11 := s10.trans s11
    refine cat_flat (ys := [V.bl (b 33), V.bl (b 34), V.bl (b 35)]) e11 (fun Q q => is1 rfl he11 TC (kit 33 (by decide)) (is1 rfl he11 TC (kit 34 (by decide)) (is1 rfl he11 TC (kit 35 (by decide)) (q)))) (by show 36 ≤ 1000; decide) fun p12 H12 s12 e12 => ?_
    have he12 := he11.same s12
    replace s12 := s11.trans s12
    refine cat_flat (ys := [V.bl (b 36), V.bl (b 37)]) e12 (fun Q q => is1 rfl he12 TC (kit 36 (by decide)) (is1 rfl he12 TC (kit 37 (by decide)) (q))) (by show 38 ≤ 1000; decide) fun p13 H13 s13 e13 => ?_
    have he13 := he12.same s13
    replace s13 := s12.trans s13
    exact ⟨_, rfl, k p13 H13 s13 e13⟩
end
end K0
namespace K0
open PySem PySem.Spec PyProof.Rows L2
section
variable {P : Program} {w : World} {K : PySem.W.Frag} {mg : Str → Option Value} {base : Heap} {c : Nat → Addr} {cP : Addr} {fI : Nat → Addr}
/-- a display of n errors, of the classes from the m-th on -/
def Mks (c : Nat → Addr) (σ : L2.St) (m n : Nat) (ts : TA) : Prop := ∀ (H1 : Hp) (Q : List V → Hp → Prop),
  (∀ (H2 : Hp) (as : List Addr), Same H1 H2 → as.length = n → (∀ i e, as[i]? = some e → IsErr H2 e (c (m + i))) → Q (as.map V.ref) H2) → ts σ H1 Q
theorem mks_nil {σ : L2.St} {m : Nat} : Mks c σ m 0 tNil := fun H1 Q q => q H1 [] (Same.refl _) rfl fun i e h => by simp at h
theorem mks_cons {σ : L2.St} {m n : Nat} {ts : TA} {v : V} {j : Nat} {te : TE} (hte : te = fun σ H Q => tVar j σ H fun _ H1 => ∀ a, H1 a = none → Q (.ref a) (upd H1 a (ExO (.ref (c m)) a))) (h0 : σ[j]? = some (some v)) (h : Mks c σ (m + 1) n ts) :
    Mks c σ m (n + 1) (tCons te ts) := fun H1 Q q => by
  subst hte
  refine ⟨_, h0, fun a na => ?_⟩
  have s1 : Same H1 (upd H1 a (ExO (.ref (c m)) a)) := new_same na
  refine h _ _ fun H2 as s2 l2 e2 => ?_
  refine q H2 (a :: as) (s1.trans s2) (by rw [List.length_cons, l2]) fun i e hi => ?_
  cases i with
  | zero =>
    have z : a = e := by simpa using hi
    subst z
    exact .inl (s2 _ _ upd_same)
  | succ i =>
    have z := e2 i e (by simpa using hi)
    rw [show m + (i + 1) = m + 1 + i by omega]
    exact z
/-- _law_plain_errors makes one error of each of the first 26 classes -/
def spPlain (c : Nat → Addr) : Sp := fun vs H Q _ => ∃ v, vs = [v] ∧ ∀ (p : Addr) (es : List Addr) (H' : Hp), Same H H' → H' p = some (.lst (es.map V.ref)) → es.length = 26 → (∀ i e, es[i]? = some e → IsErr H' e (c i)) → Q (.ref p) H'
/-- one statement of it -/
theorem plain_step {D : Ends} {v : V} {p : Addr} {H1 : Hp} {es : List Addr} {n m : Nat} {ts : TA} (hp : H1 p = some (.lst (es.map V.ref))) (hl : es.length = m) (hm : m + n ≤ 1000) (he : ∀ i e, es[i]? = some e → IsErr H1 e (c i))
    (h : Mks c [some v, some (.ref p)] m n ts) (go : ∀ q H3 (es' : List Addr), Same H1 H3 → H3 q = some (.lst (es'.map V.ref)) → es'.length = m + n → (∀ i e, es'[i]? = some e → IsErr H3 e (c i)) → D.nx [some v, some (.ref q)] H3) :
    tAsg (tOp rCat (tVar 1) (tLst ts)) (gName 1) D [some v, some (.ref p)] H1 := by
  refine cat_step (R := fun ys H2 => ∃ as : List Addr, ys = as.map V.ref ∧ as.length = n ∧ ∀ i e, as[i]? = some e → IsErr H2 e (c (m + i))) hp
    (fun Q q => h H1 Q fun H2 as s l e => q _ _ s ⟨as, rfl, l, e⟩) (fun ys H2 ⟨as, e1, e2, _⟩ => by rw [e1, List.length_map, List.length_map, hl, e2]; exact hm) ?_
  rintro ys q H2 H3 s2 ⟨as, rfl, l, e⟩ s3 e3
  refine go q H3 (es ++ as) (s2.trans s3) (by rw [e3, List.map_append]) (by rw [List.length_append, hl, l]) fun i x hi => ?_
  by_cases z : i < es.length
  · rw [List.getElem?_append_left z] at hi
    exact ((he i x hi).same s2).same s3
  · rw [List.getElem?_append_right (by omega)] at hi
    have y := (e _ x hi).same s3
    rw [show m + (i - es.length) = i by omega] at y
    exact y

theorem ok_plain {f : Addr} {fd : FuncData} (F : Fun K "_law_plain_errors" "_law_plain_errors" sPlain f fd) (T : Txt P K mg c cP fI) : FnOk P w K mg base CX0 1 f fd ["words_here"] (spPlain c) := by
  refine F.ok scPlain (fun vs H Q E h => ?_) (fun cdv A outer s H vs Q E hr h => ?_)
  · obtain ⟨v, rfl, _⟩ := h
    rfl
  · obtain ⟨v, rfl, k⟩ := h
    have nd := scPlain.nd
    refine ⟨_, (pss_cons (ps_set (i := 1) nd rfl (Or.inl rfl) (pe_lst pa_nil))
      (pss_cons (ps_set (i := 1) nd rfl (Or.inl rfl) (pe_op op_cat (pv 1) (pe_lst (pa_cons (pe_exc1 PySem.F.excBase_ValueError (T.plain 0 (by decide)).1 (T.mgs 0 _ rfl) (T.plain 0 (by decide)).2 (by rfl) (pv 0)) (pa_cons (pe_exc1 PySem.F.excBase_ValueError (T.plain 1 (by decide)).1 (T.mgs 1 _ rfl) (T.plain 1 (by decide)).2 (by rfl) (pv 0)) (pa_cons (pe_exc1 PySem.F.excBase_ValueError (T.plain 2 (by decide)).1 (T.mgs 2 _ rfl) (T.plain 2 (by decide)).2 (by rfl) (pv 0)) (pa_cons (pe_exc1 PySem.F.excBase_ValueError (T.plain 3 (by decide)).1 (T.mgs 3 _ rfl) (T.plain 3 (by decide)).2 (by rfl) (pv 0)) pa_nil)))))))
      (pss_cons (ps_set (i := 1) nd rfl (Or.inl rfl) (pe_op op_cat (pv 1) (pe_lst (pa_cons (pe_exc1 PySem.F.excBase_ValueError (T.plain 4 (by decide)).1 (T.mgs 4 _ rfl) (T.plain 4 (by decide)).2 (by rfl) (pv 0)) (pa_cons (pe_exc1 PySem.F.excBase_ValueError (T.plain 5 (by decide)).1 (T.mgs 5 _ rfl) (T.plain 5 (by decide)).2 (by rfl) (pv 0)) (pa_cons (pe_exc1 PySem.F.excBase_ValueError (T.plain 6 (by decide)).1 (T.mgs 6 _ rfl) (T.plain 6 (by decide)).2 (by rfl) (pv 0)) (pa_cons (pe_exc1 PySem.F.excBase_ValueError (T.plain 7 (by decide)).1 (T.mgs 7 _ rfl) (T.plain 7 (by decide)).2 (by rfl) (pv 0)) pa_nil)))))))
      (pss_cons (ps_set (i := 1) nd rfl (Or.inl rfl) (pe_op op_cat (pv 1) (pe_lst (pa_cons (pe_exc1 PySem.F.excBase_ValueError (T.plain 8 (by decide)).1 (T.mgs 8 _ rfl) (T.plain 8 (by decide)).2 (by rfl) (pv 0)) (pa_cons (pe_exc1 PySem.F.excBase_ValueError (T.plain 9 (by decide)).1 (T.mgs 9 _ rfl) (T.plain 9 (by decide)).2 (by rfl) (pv 0)) (pa_cons (pe_exc1 PySem.F.excBase_ValueError (T.plain 10 (by decide)).1 (T.mgs 10 _ rfl) (T.plain 10 (by decide)).2 (by rfl) (pv 0)) (pa_cons (pe_exc1 PySem.F.excBase_ValueError (T.plain 11 (by decide)).1 (T.mgs 11 _ rfl) (T.plain 11 (by decide)).2 (by rfl) (pv 0)) pa_nil)))))))
      (pss_cons (ps_set (i := 1) nd rfl (Or.inl rfl) (pe_op op_cat (pv 1) (pe_lst (pa_cons (pe_exc1 PySem.F.excBase_ValueError (T.plain 12 (by decide)).1 (T.mgs 12 _ rfl) (T.plain 12 (by decide)).2 (by rfl) (pv 0)) (pa_cons (pe_exc1 PySem.F.excBase_ValueError (T.plain 13 (by decide)).1 (T.mgs 13 _ rfl) (T.plain 13 (by decide)).2 (by rfl) (pv 0)) (pa_cons (pe_exc1 PySem.F.excBase_ValueError (T.plain 14 (by decide)).1 (T.mgs 14 _ rfl) (T.plain 14 (by decide)).2 (by rfl) (pv 0)) (pa_cons (pe_exc1 PySem.F.excBase_ValueError (T.plain 15 (by decide)).1 (T.mgs 15 _ rfl) (T.plain 15 (by decide)).2 (by rfl) (pv 0)) pa_nil)))))))
      (pss_cons (ps_set (i := 1) nd rfl (Or.inl rfl) (pe_op op_cat (pv 1) (pe_lst (pa_cons (pe_exc1 PySem.F.excBase_ValueError (T.plain 16 (by decide)).1 (T.mgs 16 _ rfl) (T.plain 16 (by decide)).2 (by rfl) (pv 0)) (pa_cons (pe_exc1 PySem.F.excBase_ValueError (T.plain 17 (by decide)).1 (T.mgs 17 _ rfl) (T.plain 17 (by decide)).2 (by rfl) (pv 0)) (pa_cons (pe_exc1 PySem.F.excBase_ValueError (T.plain 18 (by decide)).1 (T.mgs 18 _ rfl) (T.plain 18 (by decide)).2 (by rfl) (pv 0)) (pa_cons (pe_exc1 PySem.F.excBase_ValueError (T.plain 19 (by decide)).1 (T.mgs 19 _ rfl) (T.plain 19 (by decide)).2 (by rfl) (pv 0)) pa_nil)))))))
      (pss_cons (ps_set (i := 1) nd rfl (Or.inl rfl) (pe_op op_cat (pv 1) (pe_lst (pa_cons (pe_exc1 PySem.F.excBase_ValueError (T.plain 20 (by decide)).1 (T.mgs 20 _ rfl) (T.plain 20 (by decide)).2 (by rfl) (pv 0)) (pa_cons (pe_exc1 PySem.F.excBase_ValueError (T.plain 21 (by decide)).1 (T.mgs 21 _ rfl) (T.plain 21 (by decide)).2 (by rfl) (pv 0)) (pa_cons (pe_exc1 PySem.F.excBase_ValueError (T.plain 22 (by decide)).1 (T.mgs 22 _ rfl) (T.plain 22 (by decide)).2 (by rfl) (pv 0)) (pa_cons (pe_exc1 PySem.F.excBase_ValueError (T.plain 23 (by decide)).1 (T.mgs 23 _ rfl) (T.plain 23 (by decide)).2 (by rfl) (pv 0)) pa_nil)))))))
      (pss_cons (ps_set (i := 1) nd rfl (Or.inl rfl) (pe_op op_cat (pv 1) (pe_lst (pa_cons (pe_exc1 PySem.F.excBase_ValueError (T.plain 24 (by decide)).1 (T.mgs 24 _ rfl) (T.plain 24 (by decide)).2 (by rfl) (pv 0)) (pa_cons (pe_exc1 PySem.F.excBase_ValueError (T.plain 25 (by decide)).1 (T.mgs 25 _ rfl) (T.plain 25 (by decide)).2 (by rfl) (pv 0)) pa_nil)))))
      (pss_one (ps_ret (pv 1))))))))))), ?_⟩
    refine ⟨Nat.zero_le _, fun p0 n0 => ?_⟩
    have s0 : Same H (upd H p0 (.lst [])) := new_same n0
    have e0 : (upd H p0 (.lst [])) p0 = some (.lst (([] : List Addr).map V.ref)) := upd_same
    have l0 : ([] : List Addr).length = 0 := rfl
    have a0 : ∀ i e, ([] : List Addr)[i]? = some e → IsErr (upd H p0 (.lst [])) e (c i) := fun i e h => by simp at h
    generalize upd H p0 (.lst []) = H0 at s0 e0 a0 ⊢

    refine plain_step e0 l0 (by decide) a0 (mks_cons (m := 0) (j := 0) rfl rfl (mks_cons (m := 1) (j := 0) rfl rfl (mks_cons (m := 2) (j := 0) rfl rfl (mks_cons (m := 3) (j := 0) rfl rfl mks_nil)))) fun p1 H1 es1 s1 e1 l1 a1 => ?_
    replace s1 := s0.trans s1
    refine plain_step e1 l1 (by decide) a1 (mks_cons (m := 4) (j := 0) rfl rfl (mks_cons (m := 5) (j := 0) rfl rfl (mks_cons (m := 6) (j := 0) rfl rfl (mks_cons (m := 7) (j := 0) rfl rfl mks_nil)))) fun p2 H2 es2 s2 e2 l2 a2 => ?_
    replace s2 := s1.trans s2
    refine plain_step e2 l2 (by decide) a2 (mks_cons (m := 8) (j := 0) rfl rfl (mks_cons (m := 9) (j := 0) rfl rfl (mks_cons (m := 10) (j := 0) rfl rfl (mks_cons (m := 11) (j := 0) rfl rfl mks_nil)))) fun p3 H3 es3 s3 e3 l3 a3 => ?_
    replace s3 := s2.trans s3
    refine plain_step e3 l3 (by decide) a3 (mks_cons (m := 12) (j := 0) rfl rfl (mks_cons (m := 13) (j := 0) rfl rfl (mks_cons (m := 14) (j := 0) rfl rfl (mks_cons (m := 15) (j := 0) rfl rfl mks_nil)))) fun p4 H4 es4 s4 e4 l4 a4 => ?_
    replace s4 := s3.trans s4
    refine plain_step e4 l4 (by decide) a4 (mks_cons (m := 16) (j := 0) rfl rfl (mks_cons (m := 17) (j := 0) rfl rfl (mks_cons (m := 18) (j := 0) rfl rfl (mks_cons (m := 19) (j := 0) rfl rfl mks_nil)))) fun p5 H5 es5 s5 e5 l5 a5 => ?_
    replace s5 := s4.trans s5
    refine plain_step e5 l5 (by decide) a5 (mks_cons (m := 20) (j := 0) rfl rfl (mks_cons (m := 21) (j := 0) rfl rfl (mks_cons (m := 22) (j := 0) rfl rfl (mks_cons (m := 23) (j := 0) rfl rfl mks_nil)))) fun p6 H6 es6 s6 e6 l6 a6 => ?_
    replace s6 := s5.trans s6
    refine plain_step e6 l6 (by decide) a6 (mks_cons (m := 24) (j := 0) rfl rfl (mks_cons (m := 25) (j := 0) rfl rfl mks_nil)) fun p7 H7 es7 s7 e7 l7 a7 => ?_
    replace s7 := s6.trans s7
    exact ⟨_, rfl, k p7 es7 H7 s7 e7 l7 a7⟩

/-- _law_errors_of makes an error of each of the other 12 classes, and tells the field of two more of it -/
def spThrees (c : Nat → Addr) : Sp := fun vs H Q _ => ∃ v, vs = [v] ∧ ∀ (p : Addr) (ts es : List Addr) (H' : Hp), Same H H' → H' p = some (.lst (ts.map V.ref)) → ts.length = 12 → es.length = 12 →
  (∀ i t, ts[i]? = some t → ∃ e, es[i]? = some e ∧ H' t = some (.tup [.ref e, v, v]) ∧ IsErr H' e (c (26 + i))) → Q (.ref p) H'
structure Three (c : Nat → Addr) (H : Hp) (v : V) (p : Addr) (ts es : List Addr) : Prop where
  at_ : H p = some (.lst (ts.map V.ref))
  len : es.length = ts.length
  each : ∀ i t, ts[i]? = some t → ∃ e, es[i]? = some e ∧ H t = some (.tup [.ref e, v, v]) ∧ IsErr H e (c (26 + i))
/-- one statement of it -/
theorem three_step {D : Ends} {v : V} {p : Addr} {H H1 : Hp} {ts es : List Addr} {n : Nat} {pn : Str} (hn : n = ts.length) (small : n ≤ 100) (hp : H p = none) (s1 : Same H H1) (h : Three c H1 v p ts es) (TC : ExcC K (c (26 + n))) (hno : PySem.W.findIn K (.ref (c (26 + n))) pn = some none)
    (go : ∀ H3 (t e : Addr), Same H H3 → Three c H3 v p (ts ++ [t]) (es ++ [e]) → D.nx [some v, some (.ref p)] H3) :
    tDrop (tBM K "list" rAppend (tVar 1) (tCons (tTup (tCons (tErr (c (26 + n)) pn (tVar 0)) (tCons (tErrFld K pn (tErr (c (26 + n)) pn (tVar 0))) (tCons (tErrFld K pn (tErrK (c (26 + n)) pn (tVar 0))) tNil)))) tNil)) D [some v, some (.ref p)] H1 := by
  refine ⟨_, rfl, .inl ⟨rfl, _, SqL.of h.at_⟩, ?_⟩
  refine ⟨_, rfl, fun e d ne nd ned => ?_⟩
  have sA : Same H1 (upd (upd H1 d (.xd [(pn, v)])) e (exo e (c (26 + n)) (some d))) := (new_same nd).trans (new_same (by rw [upd_ne ned]; exact ne))
  have eA : IsErr (upd (upd H1 d (.xd [(pn, v)])) e (exo e (c (26 + n)) (some d))) e (c (26 + n)) := .inr ⟨d, pn, v, upd_same, by rw [upd_ne ned.symm]; exact upd_same⟩
  generalize upd (upd H1 d (.xd [(pn, v)])) e (exo e (c (26 + n)) (some d)) = HA at sA eA ⊢
  refine ⟨_, rfl, fun e2 d2 ne2 nd2 ned2 => ?_⟩
  have sB : Same HA (upd (upd HA d2 (.xd [(pn, v)])) e2 (exo e2 (c (26 + n)) (some d2))) := (new_same nd2).trans (new_same (by rw [upd_ne ned2]; exact ne2))
  refine ⟨e2, c (26 + n), d2, v, rfl, upd_same, by rw [upd_ne ned2.symm]; exact upd_same, TC, hno, ?_⟩
  have eB := eA.same sB
  generalize upd (upd HA d2 (.xd [(pn, v)])) e2 (exo e2 (c (26 + n)) (some d2)) = HB at sB eB ⊢
  refine ⟨_, rfl, v, rfl, fun e3 d3 ne3 nd3 ned3 => ?_⟩
  have sC : Same HB (upd (upd HB d3 (.xd [(pn, v)])) e3 (exo e3 (c (26 + n)) (some d3))) := (new_same nd3).trans (new_same (by rw [upd_ne ned3]; exact ne3))
  refine ⟨e3, c (26 + n), d3, v, rfl, upd_same, by rw [upd_ne ned3.symm]; exact upd_same, TC, hno, ?_⟩
  have eC := eB.same sC
  generalize upd (upd HB d3 (.xd [(pn, v)])) e3 (exo e3 (c (26 + n)) (some d3)) = HC at sC eC ⊢
  refine ⟨by show 3 ≤ sizeLine; decide, fun t nt => ?_⟩
  have sT : Same HC (upd HC t (.tup [.ref e, v, v])) := new_same nt
  have s2 : Same H1 (upd HC t (.tup [.ref e, v, v])) := ((sA.trans sB).trans sC).trans sT
  have eT := eC.same sT
  have et : (upd HC t (.tup [.ref e, v, v])) t = some (.tup [.ref e, v, v]) := upd_same
  generalize upd HC t (.tup [.ref e, v, v]) = HT at s2 eT et ⊢
  have hp' := s2 _ _ h.at_
  refine ⟨p, _, _, rfl, rfl, hp', small1000 (by rw [List.length_map]; omega), ?_⟩
  have keep : ∀ b o, b ≠ p → HT b = some o → (upd HT p (.lst (ts.map V.ref ++ [.ref t]))) b = some o := fun b o hb q => by rw [upd_ne hb]; exact q
  have errK : ∀ {x C : Addr}, IsErr HT x C → IsErr (upd HT p (.lst (ts.map V.ref ++ [.ref t]))) x C := fun {x C} z => by
    rcases z with z | ⟨d, q, y, z, zd⟩
    · exact .inl (keep _ _ (ne_of z hp' (by intro q; cases q)) z)
    · exact .inr ⟨d, q, y, keep _ _ (ne_of z hp' (by intro q; cases q)) z, keep _ _ (ne_of zd hp' (by intro q; cases q)) zd⟩
  refine go _ t e (fun b o q => keep b o (ne_of_none q hp) (s2 _ _ (s1 _ _ q))) ⟨by rw [upd_same, List.map_append]; rfl, by rw [List.length_append, List.length_append, h.len]; rfl, fun i x hi => ?_⟩
  by_cases z : i < ts.length
  · rw [List.getElem?_append_left z] at hi
    obtain ⟨y, g1, g2, g3⟩ := h.each i x hi
    have g2' := s2 _ _ g2
    exact ⟨y, by rw [List.getElem?_append_left (by rw [h.len]; exact z)]; exact g1, keep _ _ (ne_of g2' hp' (by intro q; cases q)) g2', errK (g3.same s2)⟩
  · rw [List.getElem?_append_right (by omega)] at hi
    have i0 : i = ts.length := by
      have := (List.getElem?_eq_some_iff.mp hi).1
      simp at this
      omega
    subst i0
    have xt : t = x := by simpa using hi
    subst xt
    refine ⟨e, by rw [← h.len, List.getElem?_append_right (Nat.le_refl _)]; simp, keep _ _ (ne_of et hp' (by intro q; cases q)) et, ?_⟩
    rw [← hn]
    exact errK eT
end
end K0
namespace K0
open PySem PySem.Spec PyProof.Rows L2
section
variable {P : Program} {w : World} {K : PySem.W.Frag} {mg : Str → Option Value} {base : Heap} {c : Nat → Addr} {cP : Addr} {fI : Nat → Addr}

theorem ok_threes {f : Addr} {fd : FuncData} (F : Fun K "_law_errors_of" "_law_errors_of" sThrees f fd) (T : Txt P K mg c cP fI) : FnOk P w K mg base CX0 1 f fd ["each"] (spThrees c) := by
  refine F.ok scThrees (fun vs H Q E h => ?_) (fun cdv A outer s H vs Q E hr h => ?_)
  · obtain ⟨v, rfl, _⟩ := h
    rfl
  · obtain ⟨v, rfl, k⟩ := h
    have nd := scThrees.nd
    refine ⟨_, (pss_cons (ps_set (i := 1) nd rfl (Or.inl rfl) (pe_lst pa_nil))
      (pss_cons (ps_expr (pe_bm PySem.F.plainAttrs_list PySem.F.slot_list_append PySem.F.type_list_append mt_append (pv 1) (pa_cons (pe_tup (pa_cons (pe_err (T.err 0 _ rfl) hr (by rfl) (T.mgs 26 _ rfl) (pv 0)) (pa_cons (pe_errFld (pe_err (T.err 0 _ rfl) hr (by rfl) (T.mgs 26 _ rfl) (pv 0))) (pa_cons (pe_errFld (pe_errK (T.err 0 _ rfl) hr (by rfl) (T.mgs 26 _ rfl) (pv 0))) pa_nil)))) pa_nil)))
      (pss_cons (ps_expr (pe_bm PySem.F.plainAttrs_list PySem.F.slot_list_append PySem.F.type_list_append mt_append (pv 1) (pa_cons (pe_tup (pa_cons (pe_err (T.err 1 _ rfl) hr (by rfl) (T.mgs 27 _ rfl) (pv 0)) (pa_cons (pe_errFld (pe_err (T.err 1 _ rfl) hr (by rfl) (T.mgs 27 _ rfl) (pv 0))) (pa_cons (pe_errFld (pe_errK (T.err 1 _ rfl) hr (by rfl) (T.mgs 27 _ rfl) (pv 0))) pa_nil)))) pa_nil)))
      (pss_cons (ps_expr (pe_bm PySem.F.plainAttrs_list PySem.F.slot_list_append PySem.F.type_list_append mt_append (pv 1) (pa_cons (pe_tup (pa_cons (pe_err (T.err 2 _ rfl) hr (by rfl) (T.mgs 28 _ rfl) (pv 0)) (pa_cons (pe_errFld (pe_err (T.err 2 _ rfl) hr (by rfl) (T.mgs 28 _ rfl) (pv 0))) (pa_cons (pe_errFld (pe_errK (T.err 2 _ rfl) hr (by rfl) (T.mgs 28 _ rfl) (pv 0))) pa_nil)))) pa_nil)))
      (pss_cons (ps_expr (pe_bm PySem.F.plainAttrs_list PySem.F.slot_list_append PySem.F.type_list_append mt_append (pv 1) (pa_cons (pe_tup (pa_cons (pe_err (T.err 3 _ rfl) hr (by rfl) (T.mgs 29 _ rfl) (pv 0)) (pa_cons (pe_errFld (pe_err (T.err 3 _ rfl) hr (by rfl) (T.mgs 29 _ rfl) (pv 0))) (pa_cons (pe_errFld (pe_errK (T.err 3 _ rfl) hr (by rfl) (T.mgs 29 _ rfl) (pv 0))) pa_nil)))) pa_nil)))
      (pss_cons (ps_expr (pe_bm PySem.F.plainAttrs_list PySem.F.slot_list_append PySem.F.type_list_append mt_append (pv 1) (pa_cons (pe_tup (pa_cons (pe_err (T.err 4 _ rfl) hr (by rfl) (T.mgs 30 _ rfl) (pv 0)) (pa_cons (pe_errFld (pe_err (T.err 4 _ rfl) hr (by rfl) (T.mgs 30 _ rfl) (pv 0))) (pa_cons (pe_errFld (pe_errK (T.err 4 _ rfl) hr (by rfl) (T.mgs 30 _ rfl) (pv 0))) pa_nil)))) pa_nil)))
      (pss_cons (ps_expr (pe_bm PySem.F.plainAttrs_list PySem.F.slot_list_append PySem.F.type_list_append mt_append (pv 1) (pa_cons (pe_tup (pa_cons (pe_err (T.err 5 _ rfl) hr (by rfl) (T.mgs 31 _ rfl) (pv 0)) (pa_cons (pe_errFld (pe_err (T.err 5 _ rfl) hr (by rfl) (T.mgs 31 _ rfl) (pv 0))) (pa_cons (pe_errFld (pe_errK (T.err 5 _ rfl) hr (by rfl) (T.mgs 31 _ rfl) (pv 0))) pa_nil)))) pa_nil)))
      (pss_cons (ps_expr (pe_bm PySem.F.plainAttrs_list PySem.F.slot_list_append PySem.F.type_list_append mt_append (pv 1) (pa_cons (pe_tup (pa_cons (pe_err (T.err 6 _ rfl) hr (by rfl) (T.mgs 32 _ rfl) (pv 0)) (pa_cons (pe_errFld (pe_err (T.err 6 _ rfl) hr (by rfl) (T.mgs 32 _ rfl) (pv 0))) (pa_cons (pe_errFld (pe_errK (T.err 6 _ rfl) hr (by rfl) (T.mgs 32 _ rfl) (pv 0))) pa_nil)))) pa_nil)))
      (pss_cons (ps_expr (pe_bm PySem.F.plainAttrs_list PySem.F.slot_list_append PySem.F.type_list_append mt_append (pv 1) (pa_cons (pe_tup (pa_cons (pe_err (T.err 7 _ rfl) hr (by rfl) (T.mgs 33 _ rfl) (pv 0)) (pa_cons (pe_errFld (pe_err (T.err 7 _ rfl) hr (by rfl) (T.mgs 33 _ rfl) (pv 0))) (pa_cons (pe_errFld (pe_errK (T.err 7 _ rfl) hr (by rfl) (T.mgs 33 _ rfl) (pv 0))) pa_nil)))) pa_nil)))
      (pss_cons (ps_expr (pe_bm PySem.F.plainAttrs_list PySem.F.slot_list_append PySem.F.type_list_append mt_append (pv 1) (pa_cons (pe_tup (pa_cons (pe_err (T.err 8 _ rfl) hr (by rfl) (T.mgs 34 _ rfl) (pv 0)) (pa_cons (pe_errFld (pe_err (T.err 8 _ rfl) hr (by rfl) (T.mgs 34 _ rfl) (pv 0))) (pa_cons (pe_errFld (pe_errK (T.err 8 _ rfl) hr (by rfl) (T.mgs 34 _ rfl) (pv 0))) pa_nil)))) pa_nil)))
      (pss_cons (ps_expr (pe_bm PySem.F.plainAttrs_list PySem.F.slot_list_append PySem.F.type_list_append mt_append (pv 1) (pa_cons (pe_tup (pa_cons (pe_err (T.err 9 _ rfl) hr (by rfl) (T.mgs 35 _ rfl) (pv 0)) (pa_cons (pe_errFld (pe_err (T.err 9 _ rfl) hr (by rfl) (T.mgs 35 _ rfl) (pv 0))) (pa_cons (pe_errFld (pe_errK (T.err 9 _ rfl) hr (by rfl) (T.mgs 35 _ rfl) (pv 0))) pa_nil)))) pa_nil)))
      (pss_cons (ps_expr (pe_bm PySem.F.plainAttrs_list PySem.F.slot_list_append PySem.F.type_list_append mt_append (pv 1) (pa_cons (pe_tup (pa_cons (pe_err (T.err 10 _ rfl) hr (by rfl) (T.mgs 36 _ rfl) (pv 0)) (pa_cons (pe_errFld (pe_err (T.err 10 _ rfl) hr (by rfl) (T.mgs 36 _ rfl) (pv 0))) (pa_cons (pe_errFld (pe_errK (T.err 10 _ rfl) hr (by rfl) (T.mgs 36 _ rfl) (pv 0))) pa_nil)))) pa_nil)))
      (pss_cons (ps_expr (pe_bm PySem.F.plainAttrs_list PySem.F.slot_list_append PySem.F.type_list_append mt_append (pv 1) (pa_cons (pe_tup (pa_cons (pe_err (T.err 11 _ rfl) hr (by rfl) (T.mgs 37 _ rfl) (pv 0)) (pa_cons (pe_errFld (pe_err (T.err 11 _ rfl) hr (by rfl) (T.mgs 37 _ rfl) (pv 0))) (pa_cons (pe_errFld (pe_errK (T.err 11 _ rfl) hr (by rfl) (T.mgs 37 _ rfl) (pv 0))) pa_nil)))) pa_nil)))
      (pss_one (ps_ret (pv 1)))))))))))))))), ?_⟩
    refine ⟨Nat.zero_le _, fun p n0 => ?_⟩
    have s0 : Same H (upd H p (.lst [])) := new_same n0
    have h0 : Three c (upd H p (.lst [])) v p [] [] := ⟨upd_same, rfl, fun i t h => by simp at h⟩
    generalize upd H p (.lst []) = H0 at s0 h0 ⊢

    refine three_step (n := 0) rfl (by decide) n0 s0 h0 (T.exc 26 (by decide)) (T.err 0 _ rfl).noN fun H1 t1 e1 s1 h1 => ?_
    refine three_step (n := 1) rfl (by decide) n0 s1 h1 (T.exc 27 (by decide)) (T.err 1 _ rfl).noN fun H2 t2 e2 s2 h2 => ?_
    refine three_step (n := 2) rfl (by decide) n0 s2 h2 (T.exc 28 (by decide)) (T.err 2 _ rfl).noN fun H3 t3 e3 s3 h3 => ?_
    refine three_step (n := 3) rfl (by decide) n0 s3 h3 (T.exc 29 (by decide)) (T.err 3 _ rfl).noN fun H4 t4 e4 s4 h4 => ?_
    refine three_step (n := 4) rfl (by decide) n0 s4 h4 (T.exc 30 (by decide)) (T.err 4 _ rfl).noN fun H5 t5 e5 s5 h5 => ?_
    refine three_step (n := 5) rfl (by decide) n0 s5 h5 (T.exc 31 (by decide)) (T.err 5 _ rfl).noN fun H6 t6 e6 s6 h6 => ?_
    refine three_step (n := 6) rfl (by decide) n0 s6 h6 (T.exc 32 (by decide)) (T.err 6 _ rfl).noN fun H7 t7 e7 s7 h7 => ?_
    refine three_step (n := 7) rfl (by decide) n0 s7 h7 (T.exc 33 (by decide)) (T.err 7 _ rfl).noN fun H8 t8 e8 s8 h8 => ?_
    refine three_step (n := 8) rfl (by decide) n0 s8 h8 (T.exc 34 (by decide)) (T.err 8 _ rfl).noN fun H9 t9 e9 s9 h9 => ?_
    refine three_step (n := 9) rfl (by decide) n0 s9 h9 (T.exc 35 (by decide)) (T.err 9 _ rfl).noN fun H10 t10 e10 s10 h10 => ?_
    refine three_step (n := 10) rfl (by decide) n0 s10 h10 (T.exc 36 (by decide)) (T.err 10 _ rfl).noN fun H11 t11 e11 s11 h11 => ?_
    refine three_step (n := 11) rfl (by decide) n0 s11 h11 (T.exc 37 (by decide)) (T.err 11 _ rfl).noN fun H12 t12 e12 s12 h12 => ?_
    exact ⟨_, rfl, k p _ _ H12 s12 h12.at_ rfl rfl h12.each⟩
/-- what _law_any hands out -/
inductive EachV (H : Hp) : V → PyData → Prop
  | non : EachV H .non .none
  | fls : EachV H (.bl false) (.bool false)
  | m5 : EachV H (.int (-5)) (.int (-5))
  | big : EachV H (.int (10 ^ 45)) (.int (10 ^ 45))
  | s0 : EachV H (.str "") (.str "")
  | s1 : EachV H (.str "wide") (.str "wide")
  | s2 : EachV H (.str "two words") (.str "two words")
  | l0 {a : Addr} (n : a ≠ sysModules) (e : H a = some (.lst [])) : EachV H (.ref a) (.list [])
  | l1 {a t : Addr} (n : a ≠ sysModules) (e : H a = some (.lst [.ref t])) (et : H t = some (.tup [.int 0, .int 2])) : EachV H (.ref a) (.list [.tuple [.int 0, .int 2]])
  | t0 {a : Addr} (e : H a = some (.tup [])) : EachV H (.ref a) (.tuple [])
  | t1 {a : Addr} (e : H a = some (.tup [.int 4])) : EachV H (.ref a) (.tuple [.int 4])
  | d0 {a : Addr} (e : H a = some (.dK [])) : EachV H (.ref a) (.dict [])
  | d1 {a t : Addr} (e : H a = some (.dK [(.inr "a", .ref t)])) (et : H t = some (.tup [.int 1])) : EachV H (.ref a) (.dict [(.str "a", .tuple [.int 1])])
  | l2 {a b : Addr} (na : a ≠ sysModules) (nb : b ≠ sysModules) (e : H a = some (.lst [.ref b])) (eb : H b = some (.lst [.non])) : EachV H (.ref a) (.list [.list [.none]])
theorem EachV.same {H H' : Hp} {v : V} {d : PyData} (e : EachV H v d) (s : Same H H') : EachV H' v d := by
  cases e with
  | non => exact .non
  | fls => exact .fls
  | m5 => exact .m5
  | big => exact .big
  | s0 => exact .s0
  | s1 => exact .s1
  | s2 => exact .s2
  | l0 n e => exact .l0 n (s _ _ e)
  | l1 n e et => exact .l1 n (s _ _ e) (s _ _ et)
  | t0 e => exact .t0 (s _ _ e)
  | t1 e => exact .t1 (s _ _ e)
  | d0 e => exact .d0 (s _ _ e)
  | d1 e et => exact .d1 (s _ _ e) (s _ _ et)
  | l2 n m e eb => exact .l2 n m (s _ _ e) (s _ _ eb)
/-- it is read as its datum -/
theorem EachV.reads {X : Cx} {H : Hp} {v : V} {d : PyData} (e : EachV H v d) : ReadsV X H v d := by
  cases e with
  | non => exact .non
  | fls => exact .bl _
  | m5 => exact .int _
  | big => exact .int _
  | s0 => exact .str _
  | s1 => exact .str _
  | s2 => exact .str _
  | l0 n e => exact .lst n e .nil
  | l1 n e et => exact .lst n e (.cons (.tup et (.cons (.int _) (.cons (.int _) .nil))) .nil)
  | t0 e => exact .tup e .nil
  | t1 e => exact .tup e (.cons (.int _) .nil)
  | d0 e => exact .dic0 e
  | d1 e et => exact .dic1 e (.tup et (.cons (.int _) .nil))
  | l2 n m e eb => exact .lst n e (.cons (.lst m eb (.cons .non .nil)) .nil)
/-- of the datum twice in a list: it can be shown -/
theorem EachV.shows {H : Hp} {v : V} {d : PyData} (e : EachV H v d) : (PyData.list [d, d]).showable = true ∧ (PyData.list [d, d]).depth ≤ 50 ∧ (PyData.list [d, d]).shown.length ≤ sizeLine := by
  cases e <;> refine ⟨by decide +kernel, by decide +kernel, by decide +kernel⟩
def spAny (K : PySem.W.Frag) : Sp := fun vs H Q _ => ∃ (d l c : Addr), vs = [.ref d] ∧ Dr.DrawAt H d l c ∧ ∀ (v : V) (x : PyData) (H' : Hp), EachV H' v x → Dr.DrawAt H' d l c → Dr.But H H' d l → Q v H'
theorem ok_any {f fP : Addr} {fd fdP : FuncData} (F : Fun K "_law_any" "_law_any" sAny f fd) (GP : FnOk P w K mg base CX0 3 fP fdP ["draw", "some"] (Dr.spPick K)) (kP : PySem.W.keepIn K (.ref fP) = true)
    (bP : Binds K fdP ["draw", "some"] []) (mP : mg "_law_pick" = some (.ref fP)) : FnOk P w K mg base CX0 4 f fd ["draw"] (spAny K) := by
  refine F.ok scAny (fun vs H Q E h => ?_) (fun cdv A outer s H vs Q E hr h => ?_)
  · obtain ⟨d, l, c, rfl, _⟩ := h
    rfl
  · obtain ⟨d, l, c, rfl, D, k⟩ := h
    have nd := scAny.nd
    refine ⟨_, pss_cons (ps_set (i := 1) nd rfl (Or.inl rfl) (pe_lst (pa_cons pe_non (pa_cons pe_bl (pa_cons (pe_un un_neg pe_int) (pa_cons (pe_op op_pow pe_int pe_int) (pa_cons pe_str (pa_cons pe_str (pa_cons pe_str
        (pa_cons (pe_lstN pa_nil) (pa_cons (pe_lstN (pa_cons (pe_tup (pa_cons pe_int (pa_cons pe_int pa_nil))) pa_nil)) (pa_cons (pe_tup pa_nil) (pa_cons (pe_tup (pa_cons pe_int pa_nil)) (pa_cons pe_dnewK
        (pa_cons (pe_disp (pps_cons pe_str (pe_tup (pa_cons pe_int pa_nil)) pps_nil) (by rfl) (by rfl) (fun z => by cases z) (by decide)) (pa_cons (pe_lstN (pa_cons (pe_lstN (pa_cons pe_non pa_nil)) pa_nil)) pa_nil))))))))))))))))
      (pss_one (ps_ret (pe_call GP hr rfl mP kP bP .nil pass0 (pa_cons (pv 0) (pa_cons (pv 1) pa_nil))))), ?_⟩
    refine ⟨_, rfl, 10, 45, rfl, rfl, ⟨by decide, by decide, by decide⟩, ?_⟩
    -- [], [(0, 2)], (), (4,), {}, {'a': (1,)}, [[None]]
    obtain ⟨_, _, _, r0, t0, ls, cs, ed, el, ec, _⟩ := id D
    have fr : ∀ {Hk : Hp} {a : Addr}, Same H Hk → Hk a = none → a ≠ d ∧ a ≠ l := fun {Hk a} z n => ⟨(ne_of_none (z _ _ ed) n).symm, (ne_of_none (z _ _ el) n).symm⟩
    refine ⟨Nat.zero_le _, fun a1 x1 n1 => ?_⟩
    have q1 := fr (Same.refl _) n1
    have z1 : Same H (upd H a1 (.lst [])) := new_same n1
    have f1 : (upd H a1 (.lst [])) a1 = some (.lst []) := upd_same
    generalize upd H a1 (.lst []) = H1 at z1 f1 ⊢
    refine ⟨by show 2 ≤ sizeLine; decide, fun a2 n2 => ?_⟩
    have q2 := fr z1 n2
    have y2 : Same H1 (upd H1 a2 (.tup [.int 0, .int 2])) := new_same n2
    have f2 : (upd H1 a2 (.tup [.int 0, .int 2])) a2 = some (.tup [.int 0, .int 2]) := upd_same
    generalize upd H1 a2 (.tup [.int 0, .int 2]) = H2 at y2 f2 ⊢
    have z2 := z1.trans y2
    refine ⟨by show 1 ≤ sizeLine; decide, fun a3 x3 n3 => ?_⟩
    have q3 := fr z2 n3
    have y3 : Same H2 (upd H2 a3 (.lst [.ref a2])) := new_same n3
    have f3 : (upd H2 a3 (.lst [.ref a2])) a3 = some (.lst [.ref a2]) := upd_same
    generalize upd H2 a3 (.lst [.ref a2]) = H3 at y3 f3 ⊢
    have z3 := z2.trans y3
    refine ⟨Nat.zero_le _, fun a4 n4 => ?_⟩
    have q4 := fr z3 n4
    have y4 : Same H3 (upd H3 a4 (.tup [])) := new_same n4
    have f4 : (upd H3 a4 (.tup [])) a4 = some (.tup []) := upd_same
    generalize upd H3 a4 (.tup []) = H4 at y4 f4 ⊢
    have z4 := z3.trans y4
    refine ⟨by show 1 ≤ sizeLine; decide, fun a5 n5 => ?_⟩
    have q5 := fr z4 n5
    have y5 : Same H4 (upd H4 a5 (.tup [.int 4])) := new_same n5
    have f5 : (upd H4 a5 (.tup [.int 4])) a5 = some (.tup [.int 4]) := upd_same
    generalize upd H4 a5 (.tup [.int 4]) = H5 at y5 f5 ⊢
    have z5 := z4.trans y5
    intro a6 n6
    have q6 := fr z5 n6
    have y6 : Same H5 (upd H5 a6 (.dK [])) := new_same n6
    have f6 : (upd H5 a6 (.dK [])) a6 = some (.dK []) := upd_same
    generalize upd H5 a6 (.dK []) = H6 at y6 f6 ⊢
    have z6 := z5.trans y6
    intro a7 n7
    have q7 := fr z6 n7
    have y7 : Same H6 (upd H6 a7 (.dK [])) := new_same n7
    have f7 : (upd H6 a7 (.dK [])) a7 = some (.dK []) := upd_same
    refine ⟨by show 1 ≤ sizeLine; decide, fun a8 n8 => ?_⟩
    have q8 := fr (z6.trans y7) n8
    have y8 : Same (upd H6 a7 (.dK [])) (upd (upd H6 a7 (.dK [])) a8 (.tup [.int 1])) := new_same n8
    have f8 : (upd (upd H6 a7 (.dK [])) a8 (.tup [.int 1])) a8 = some (.tup [.int 1]) := upd_same
    have f7b := y8 _ _ f7
    have y78 := y7.trans y8
    generalize upd (upd H6 a7 (.dK [])) a8 (.tup [.int 1]) = H8 at f8 f7b y78 ⊢
    refine ⟨f7b, [(.inr "a", .ref a8)], rfl, by show 1 ≤ 15; decide, ?_⟩
    have n78 : a8 ≠ a7 := ne_of f8 f7b (by intro q; cases q)
    have y9 : Same H6 (upd H8 a7 (.dK (mergeK [] [(.inr "a", .ref a8)]))) := fun b o e => by rw [upd_ne (ne_of_none e n7)]; exact y78 _ _ e
    have f9 : (upd H8 a7 (.dK (mergeK [] [(.inr "a", .ref a8)]))) a7 = some (.dK [(.inr "a", .ref a8)]) := by rw [upd_same]; rfl
    have f8b : (upd H8 a7 (.dK (mergeK [] [(.inr "a", .ref a8)]))) a8 = some (.tup [.int 1]) := by rw [upd_ne n78]; exact f8
    generalize upd H8 a7 (.dK (mergeK [] [(.inr "a", .ref a8)])) = H9 at y9 f9 f8b ⊢
    have z9 := z6.trans y9
    refine ⟨by show 1 ≤ sizeLine; decide, fun b1 xb1 m1 => ?_⟩
    have q10 := fr z9 m1
    have y10 : Same H9 (upd H9 b1 (.lst [.non])) := new_same m1
    have f10 : (upd H9 b1 (.lst [.non])) b1 = some (.lst [.non]) := upd_same
    generalize upd H9 b1 (.lst [.non]) = H10 at y10 f10 ⊢
    have z10 := z9.trans y10
    refine ⟨by show 1 ≤ sizeLine; decide, fun b2 xb2 m2 => ?_⟩
    have q11 := fr z10 m2
    have y11 : Same H10 (upd H10 b2 (.lst [.ref b1])) := new_same m2
    have f11 : (upd H10 b2 (.lst [.ref b1])) b2 = some (.lst [.ref b1]) := upd_same
    generalize upd H10 b2 (.lst [.ref b1]) = H11 at y11 f11 ⊢
    have z11 := z10.trans y11
    refine ⟨by show 14 ≤ sizeLine; decide, fun p np => ?_⟩
    have qp := fr z11 np
    have yp := new_same (o := .lst [.non, .bl false, .int (-5), .int (10 ^ 45), .str "", .str "wide", .str "two words", .ref a1, .ref a3, .ref a4, .ref a5, .ref a6, .ref a7, .ref b2]) np
    refine ⟨_, rfl, _, rfl, d, l, c, p, _, rfl, upd_same, qp.1, qp.2, by show 0 < 14; decide, by show 14 < 1000; decide, D.same (z11.trans yp), fun i x H' hx D' B' => ?_⟩
    have up : ∀ {b : Addr} {o : HO}, b ≠ d ∧ b ≠ l → H11 b = some o → H' b = some o := fun {b o} q e => B' b o (yp _ _ e) q.1 q.2
    have B0 : Dr.But H H' d l := fun b o e h1 h2 => B' b o (yp _ _ (z11 _ _ e)) h1 h2
    have y1 : Same H1 H11 := ((((((y2.trans y3).trans y4).trans y5).trans y6).trans y9).trans y10).trans y11
    have y2' : Same H2 H11 := (((((y3.trans y4).trans y5).trans y6).trans y9).trans y10).trans y11
    have y3' : Same H3 H11 := ((((y4.trans y5).trans y6).trans y9).trans y10).trans y11
    have y4' : Same H4 H11 := (((y5.trans y6).trans y9).trans y10).trans y11
    have y5' : Same H5 H11 := ((y6.trans y9).trans y10).trans y11
    have y6' : Same H6 H11 := (y9.trans y10).trans y11
    have y9' : Same H9 H11 := y10.trans y11
    match i, hx with
    | 0, hx => obtain rfl := Option.some.inj hx; exact k _ _ H' .non D' B0
    | 1, hx => obtain rfl := Option.some.inj hx; exact k _ _ H' .fls D' B0
    | 2, hx => obtain rfl := Option.some.inj hx; exact k _ _ H' .m5 D' B0
    | 3, hx => obtain rfl := Option.some.inj hx; exact k _ _ H' .big D' B0
    | 4, hx => obtain rfl := Option.some.inj hx; exact k _ _ H' .s0 D' B0
    | 5, hx => obtain rfl := Option.some.inj hx; exact k _ _ H' .s1 D' B0
    | 6, hx => obtain rfl := Option.some.inj hx; exact k _ _ H' .s2 D' B0
    | 7, hx => obtain rfl := Option.some.inj hx; exact k _ _ H' (.l0 x1 (up q1 (y1 _ _ f1))) D' B0
    | 8, hx => obtain rfl := Option.some.inj hx; exact k _ _ H' (.l1 x3 (up q3 (y3' _ _ f3)) (up q2 (y2' _ _ f2))) D' B0
    | 9, hx => obtain rfl := Option.some.inj hx; exact k _ _ H' (.t0 (up q4 (y4' _ _ f4))) D' B0
    | 10, hx => obtain rfl := Option.some.inj hx; exact k _ _ H' (.t1 (up q5 (y5' _ _ f5))) D' B0
    | 11, hx => obtain rfl := Option.some.inj hx; exact k _ _ H' (.d0 (up q6 (y6' _ _ f6))) D' B0
    | 12, hx => obtain rfl := Option.some.inj hx; exact k _ _ H' (.d1 (up q7 (y9' _ _ f9)) (up q8 (y9' _ _ f8b))) D' B0
    | 13, hx => obtain rfl := Option.some.inj hx; exact k _ _ H' (.l2 xb2 xb1 (up q11 f11) (up q10 (y11 _ _ f10))) D' B0
    | n + 14, hx => cases hx
end
end K0
namespace K0
open PySem PySem.Spec PyProof.Rows L2
/-- repr, told by the written part alone -/
def rReprK (K : PySem.W.Frag) : List V → Hp → VK → Prop := fun xs H Q => ∃ (a : Addr) (d : PyData), xs = [.ref a] ∧ (∀ X : Cx, X.K = K → ReadsV X H (.ref a) d) ∧ d.showable = true ∧ d.depth ≤ 50 ∧ d.shown.length ≤ sizeLine ∧ Q (.str d.shown) H
theorem call_reprK {X : Cx} {K : PySem.W.Frag} (hK : X.K = K) (hg : X.A.guards = some []) (hu : X.A.units + 64 < cLine) : CallR X (.builtin "repr") (rReprK K) := fun pins s σ H xs us Q I r h => by
  obtain ⟨a, d, e, hr, q⟩ := h
  exact call_reprV hg hu pins s σ H xs us Q I r ⟨a, d, e, hr X hK, q⟩
theorem ix_tupK {X : Cx} {K : PySem.W.Frag} (hK : X.K = K) : IxR X (rIxT K) := hK ▸ ix_tup
def spLaw (K : PySem.W.Frag) : Sp := fun vs H Q _ => ∃ (a : Addr) (ns : List Int), vs = [.ref a] ∧ SqL K H a (ns.map V.int) ∧ ns.length ≤ 63 ∧ ∀ H', Q (.bl true) H'
section
variable {P : Program} {w : World} {K : PySem.W.Frag} {mg : Str → Option Value} {base : Heap} {c : Nat → Addr} {cP : Addr} {fI : Nat → Addr}
theorem depth_bools {α : Type} (f : α → Bool) : ∀ l : List α, PyData.depthAll (l.map fun q => PyData.bool (f q)) = 0
  | [] => by simp [PyData.depthAll]
  | x :: xs => by rw [List.map_cons, PyData.depthAll, depth_bools f xs]; simp [PyData.depth]
theorem lay_bools {α : Type} (f : α → Bool) : ∀ l : List α, PyData.canLayAll0 (l.map fun q => PyData.bool (f q)) = true
  | [] => by simp [PyData.canLayAll0]
  | x :: xs => by rw [List.map_cons, PyData.canLayAll0, lay_bools f xs]; simp [PyData.canLay0]
theorem lay_bools' {α : Type} (f : α → Bool) (l : List α) : PyData.canLay0 (.list (l.map fun q => PyData.bool (f q))) = true := by
  rw [PyData.canLay0, lay_bools]
theorem shaped_bools {α : Type} (f : α → Bool) (l : List α) : SeqAt.shaped (.list (l.map fun q => PyData.bool (f q))) = true := by
  unfold SeqAt.shaped
  rw [lay_bools', PyData.depth, depth_bools]
  rfl
theorem dp_bools {α : Type} {K : PySem.W.Frag} {H : Hp} (f : α → Bool) : ∀ l : List α, DpAll K H (l.map fun q => V.bl (f q)) (l.map fun q => PyData.bool (f q))
  | [] => .nil
  | x :: xs => .cons (.bl _) (dp_bools f xs)
/-- the law's other defs, each with its promise -/
structure Defs (P : Program) (w : World) (K : PySem.W.Frag) (mg : Str → Option Value) (base : Heap) (c : Nat → Addr) (fB fP fA fK fE fT : Addr) (dB dP dA dK dE dT : FuncData) : Prop where
  gB : FnOk P w K mg base CX0 1 fB dB ["script"] (Dr.spBegun K)
  mB : mg "_law_begun" = some (.ref fB)
  kB : PySem.W.keepIn K (.ref fB) = true
  bB : Binds K dB ["script"] []
  gP : FnOk P w K mg base CX0 3 fP dP ["draw", "some"] (Dr.spPick K)
  mP : mg "_law_pick" = some (.ref fP)
  kP : PySem.W.keepIn K (.ref fP) = true
  bP : Binds K dP ["draw", "some"] []
  gA : FnOk P w K mg base CX0 4 fA dA ["draw"] (spAny K)
  mA : mg "_law_any" = some (.ref fA)
  kA : PySem.W.keepIn K (.ref fA) = true
  bA : Binds K dA ["draw"] []
  gK : FnOk P w K mg base CX0 1 fK dK ["error"] (spKinds K c)
  mK : mg "_law_kinds" = some (.ref fK)
  kK : PySem.W.keepIn K (.ref fK) = true
  bK : Binds K dK ["error"] []
  gE : FnOk P w K mg base CX0 1 fE dE ["words_here"] (spPlain c)
  mE : mg "_law_plain_errors" = some (.ref fE)
  kE : PySem.W.keepIn K (.ref fE) = true
  bE : Binds K dE ["words_here"] []
  gT : FnOk P w K mg base CX0 1 fT dT ["each"] (spThrees c)
  mT : mg "_law_errors_of" = some (.ref fT)
  kT : PySem.W.keepIn K (.ref fT) = true
  bT : Binds K dT ["each"] []
theorem ok_law {f fB fP fA fK fE fT : Addr} {fd dB dP dA dK dE dT : FuncData} (F : Fun K "law" "law" sLaw f fd) (T : Txt P K mg c cP fI) (G : Defs P w K mg base c fB fP fA fK fE fT dB dP dA dK dE dT) :
    FnOkG P w K mg base 5 f fd ["script"] (spLaw K) := by
  refine F.okG scLaw (fun vs H Q E h => ?_) (fun cdv A outer s H vs Q E hgd hr h => ?_)
  · obtain ⟨a, ns, rfl, _⟩ := h
    rfl
  · obtain ⟨a, ns, rfl, hS, hlen, k⟩ := h
    have nd := scLaw.nd
    have hr1 := hr.mono (show 1 ≤ 4 by decide)
    have hr3 := hr.mono (show 3 ≤ 4 by decide)
    have hgd' : (A.deeper (envOfC "law" (defScope sLaw) s.heap.objs.size f cdv)).guards = some [] := hgd
    refine ⟨_, pss_cons (ps_set (i := 1) nd rfl (Or.inl rfl) (pe_call G.gB hr1 rfl G.mB G.kB G.bB .nil pass0 (pa_cons (pv 0) pa_nil)))
      (pss_cons (ps_asg (pe_tup (pa_cons (pe_call G.gP hr3 rfl G.mP G.kP G.bP .nil pass0 (pa_cons (pv 1) (pa_cons (pe_lst (pa_cons pe_str (pa_cons pe_str (pa_cons pe_str pa_nil)))) pa_nil)))
          (pa_cons (pe_call G.gA hr rfl G.mA G.kA G.bA .nil pass0 (pa_cons (pv 1) pa_nil)) pa_nil))) (pg_tup (by rfl) (pgs_cons (pg_name (i := 2) nd rfl (Or.inl rfl)) (pgs_cons (pg_name (i := 3) nd rfl (Or.inr rfl)) pgs_nil))))
      (pss_cons (ps_set (i := 4) nd rfl (Or.inl rfl) (pe_call G.gT hr1 rfl G.mT G.kT G.bT .nil pass0 (pa_cons (pv 3) pa_nil)))
      (pss_cons (ps_set (i := 5) nd rfl (Or.inl rfl) (pe_op op_cat (pe_call G.gE hr1 rfl G.mE G.kE G.bE .nil pass0 (pa_cons (pv 2) pa_nil))
        (pe_lc (own := [("item", 9)]) (g := gName 9) rfl nd (pi_list (pv 4)) (blkOk_by (N := lawN) (sc := defScope sLaw) (by decide +kernel)) (fun _ _ _ _ _ => pg_name (i := 9) nd rfl (Or.inl rfl)) (fun _ _ _ _ _ => pts_nil)
          (fun _ _ _ _ _ => pe_ix (ix_tupK (K := K) rfl) (pv 9) pe_int (fun _ _ => rfl)))))
      (pss_cons (ps_for PassesOwn.never rfl (pi_enum (by rfl) T.enum (pa_cons (pv 5) pa_nil)) (pg_tup (by rfl) (pgs_cons (pg_name (i := 6) nd rfl (Or.inr rfl)) (pgs_cons (pg_name (i := 7) nd rfl (Or.inl rfl)) pgs_nil)))
        (pss_cons (ps_if (pt_cmpR (op_neD hr.units) (pe_call G.gK hr1 rfl G.mK G.kK G.bK .nil pass0 (pa_cons (pv 7) pa_nil))
            (pe_lc (own := [("k", 10)]) (g := gName 10) rfl nd (pi_range1 (by rfl) T.range (pa_cons pe_int pa_nil)) (blkOk_by (N := lawN) (sc := defScope sLaw) (by decide +kernel)) (fun _ _ _ _ _ => pg_name (i := 10) nd rfl (Or.inl rfl)) (fun _ _ _ _ _ => pts_nil)
              (fun _ _ _ _ _ => pe_cmpR op_eq (pv 10) (pv 6) (nomark _))) (nomark _)) (pss_one (ps_ret pe_bl)) pss_nil)
        (pss_one (ps_if (PW.pt (pw_or (pt_not (pt_val (pe_callB call_isV (by rfl) T.isi (by decide +kernel) (pa_cons (pv 7) (pa_cons (pe_glob (v := V.ref cP) (by rfl) T.mgP rfl) pa_nil)))))
            (pw_or1 (pt_not (pt_val (pe_callB call_isV (by rfl) T.isi (by decide +kernel) (pa_cons (pv 7) (pa_cons (pe_bltn (v := V.ty "ValueError") (by rfl) T.ve (by decide +kernel) rfl) pa_nil)))))))) (pss_one (ps_ret pe_bl)) pss_nil))))
      (pss_cons (ps_if (pt_cmpR (op_neD hr.units) (pe_lc (own := [("item", 9)]) (g := gName 9) rfl nd (pi_list (pv 4)) (blkOk_by (N := lawN) (sc := defScope sLaw) (by decide +kernel)) (fun _ _ _ _ _ => pg_name (i := 9) nd rfl (Or.inl rfl))
          (fun _ _ _ _ _ => pts_one (pt_cmpR op_ne (pe_callB (call_reprK (K := K) rfl hgd' hr.units) (by rfl) T.repr (by decide +kernel) (pa_cons (pe_lstN (pa_cons (pe_ix (ix_tupK (K := K) rfl) (pv 9) pe_int (fun _ _ => rfl)) (pa_cons (pe_ix (ix_tupK (K := K) rfl) (pv 9) pe_int (fun _ _ => rfl)) pa_nil))) pa_nil))
            (pe_callB (call_reprK (K := K) rfl hgd' hr.units) (by rfl) T.repr (by decide +kernel) (pa_cons (pe_lstN (pa_cons (pv 3) (pa_cons (pv 3) pa_nil))) pa_nil)) (nomark _))) (fun _ _ _ _ _ => pe_int)) (pe_lst pa_nil) (nomark _)) (pss_one (ps_ret pe_bl)) pss_nil)
      (pss_cons (ps_set (i := 8) nd rfl (Or.inl rfl) (pe_exc1 PySem.F.excBase_ValueError T.plainP.1 T.mgP T.plainP.2 (by rfl) pe_str))
      (pss_one (ps_ret (pe_and (pe_cmpR op_notIn_seq pe_bl (pe_call G.gK hr1 rfl G.mK G.kK G.bK .nil pass0 (pa_cons (pv 8) pa_nil)) (by rfl))
        (pe_one (pe_callB call_isV (by rfl) T.isi (by decide +kernel) (pa_cons (pv 8) (pa_cons (pe_bltn (v := V.ty "ValueError") (by rfl) T.ve (by decide +kernel) rfl) pa_nil))))))))))))), ?_⟩
    -- draw = _law_begun(script)
    refine ⟨_, rfl, a, ns, rfl, hS, hlen, fun d l c' H1 s1 hd hl hc D => ?_⟩
    -- words_here, each = ..
    refine ⟨_, rfl, by show 3 ≤ sizeLine; decide, fun q nq => ?_⟩
    have sq : Same H1 (upd H1 q (.lst [.str "", .str "w", .str "nothing of the kind"])) := new_same nq
    obtain ⟨_, _, _, r0, t0, ls, cs, ed, el, ec, _⟩ := id D
    refine ⟨d, l, c', q, _, rfl, upd_same, (ne_of_none ed nq).symm, (ne_of_none el nq).symm, by show 0 < 3; decide, by show 3 < 1000; decide, D.same sq, fun i0 x H2 _ D2 _ => ?_⟩
    refine ⟨_, rfl, d, l, c', rfl, D2, fun v dv H3 ev D3 _ => ?_⟩
    refine ⟨by show 2 ≤ sizeLine; decide, fun tt nt => ?_⟩
    have ev4 : EachV (upd H3 tt (.tup [x, v])) v dv := ev.same (new_same nt)
    refine ⟨tt, [x, v], rfl, .inl (.inl upd_same), rfl, x, [v], rfl, v, [], rfl, rfl, ?_⟩
    generalize upd H3 tt (.tup [x, v]) = H4 at ev4 ⊢
    -- threes_here = ..
    refine ⟨_, rfl, v, rfl, fun p ts es H5 s5 at5 lt5 le5 three => ?_⟩
    have ev5 := ev4.same s5
    -- errors_here = ..
    refine ⟨_, rfl, x, rfl, fun p2 es2 H6 s6 at6 l6 err6 => ?_⟩
    have at5' := s6 _ _ at5
    refine ⟨_, rfl, p, rfl, ⟨_, SqL.of at5'⟩, fun D1 nD1 => ?_⟩
    refine lc_list (K := K) (a := p) (xs := ts.map V.ref) (fun i H' => Same H6 H' ∧ H' D1 = some (.lst ((es.take i).map V.ref)))
      ⟨new_same nD1, by rw [upd_same]; rfl⟩ (fun i H' _ ⟨z, _⟩ => SqL.of (z _ _ at5')) ?_ ?_
    · rintro i y H' hy ⟨z, e1⟩
      rw [List.getElem?_map] at hy
      cases et : ts[i]? with
      | none => rw [et] at hy; cases hy
      | some t =>
        rw [et] at hy
        obtain rfl := Option.some.inj hy
        obtain ⟨e, g1, g2, g3⟩ := three i t et
        have g2' := z _ _ (s6 _ _ g2)
        refine ⟨rfl, ?_⟩
        refine ⟨_, rfl, t, _, 0, .ref e, rfl, rfl, .inl (.inl g2'), atI_nat (j := 0) rfl, _, e1, small1000 (by rw [List.length_map, List.length_take]; omega), ?_⟩
        refine ⟨fun b o q => by rw [upd_ne (ne_of_none q nD1)]; exact z _ _ q, ?_⟩
        rw [upd_same, List.take_add_one, g1, List.map_append]
        rfl
    · rintro H' ⟨z, e1⟩
      have e1' : H' D1 = some (.lst (es.map V.ref)) := by
        rw [e1, List.length_map, lt5, ← le5, List.take_length]
      refine ⟨p2, D1, _, _, rfl, rfl, z _ _ at6, e1', Nat.le_of_lt (small1000 (by rw [List.length_map, List.length_map, l6, le5]; decide)), fun u nu => ?_⟩
      have s7 : Same H' (upd H' u (.lst (es2.map V.ref ++ es.map V.ref))) := new_same nu
      have at7 : (upd H' u (.lst (es2.map V.ref ++ es.map V.ref))) u = some (.lst ((es2 ++ es).map V.ref)) := by rw [upd_same, List.map_append]
      have ev7 := ((ev5.same s6).same z).same s7
      have th7 := s7 _ _ (z _ _ at5')
      have each7 : ∀ i t, ts[i]? = some t → ∃ e, (upd H' u (.lst (es2.map V.ref ++ es.map V.ref))) t = some (.tup [.ref e, v, v]) := fun i t h => by
        obtain ⟨e, _, g2, _⟩ := three i t h
        exact ⟨e, s7 _ _ (z _ _ (s6 _ _ g2))⟩
      have err7 : ∀ i e, (es2 ++ es)[i]? = some e → IsErr (upd H' u (.lst (es2.map V.ref ++ es.map V.ref))) e (c i) := fun i e h => by
        by_cases hi : i < es2.length
        · rw [List.getElem?_append_left hi] at h
          exact ((err6 i e h).same z).same s7
        · rw [List.getElem?_append_right (by omega)] at h
          have hlt : i - es2.length < ts.length := by rw [lt5, ← le5]; exact (List.getElem?_eq_some_iff.mp h).1
          obtain ⟨e', g1, _, g3⟩ := three (i - es2.length) _ (List.getElem?_eq_getElem hlt)
          rw [h] at g1
          obtain rfl := Option.some.inj g1
          have y := ((g3.same s6).same z).same s7
          rw [show 26 + (i - es2.length) = i by omega] at y
          exact y
      have len7 : (es2 ++ es).length = 38 := by rw [List.length_append, l6, le5]
      generalize upd H' u (.lst (es2.map V.ref ++ es.map V.ref)) = H7 at at7 ev7 th7 each7 err7 ⊢
      -- for spot, error in enumerate(errors_here)
      refine ⟨_, rfl, u, _, rfl, SqL.of at7, ?_⟩
      refine for_it (walk_enum (xs := (es2 ++ es).map V.ref)) (fun i σ H8 => Same H7 H8 ∧ ∃ g6 g7 : Option V, σ = [some (.ref a), some (.ref d), some x, some v, some (.ref p), some (.ref u), g6, g7, none, none, none])
        ⟨Same.refl _, none, none, rfl⟩ (fun i σ H8 _ ⟨z, _⟩ => SqL.of (z _ _ at7)) ?_ ?_
      · rintro i y σ H8 H9 hi ⟨z8, g6, g7, rfl⟩ ⟨T1, x1, y1, rfl, nT, rfl, hx1, hy1⟩
        obtain rfl := Option.some.inj hx1
        rw [List.length_map, len7] at hi
        replace hy1 : ((es2 ++ es).map V.ref)[i]? = some y1 := hy1
        rw [List.getElem?_map] at hy1
        cases ee : (es2 ++ es)[i]? with
        | none => rw [ee] at hy1; cases hy1
        | some e =>
          rw [ee] at hy1
          obtain rfl := Option.some.inj hy1
          have sT : Same H8 (upd H8 T1 (.tup [.int (i : Nat), .ref e])) := new_same nT
          refine ⟨T1, _, rfl, .inl (.inl upd_same), rfl, _, _, rfl, _, [], rfl, rfl, ?_⟩
          have he := ((err7 i e ee).same z8).same sT
          have z9 := z8.trans sT
          generalize upd H8 T1 (.tup [.int (i : Nat), .ref e]) = H9 at he z9 ⊢
          -- _law_kinds(error) != [k == spot for k in range(38)]
          refine ⟨_, rfl, e, c i, fun j => decide (i = j), rfl, he, T.exc i hi, fun j hj => T.kit i j hi hj, fun pk H10 s10 ek => ?_⟩
          refine ⟨38, rfl, by decide, by decide, fun Dk nDk => ?_⟩
          refine lc_range (lo := 0) (n := 38) (fun j H' => Same H10 H' ∧ H' Dk = some (.lst ((List.range j).map fun q => V.bl (decide (i = q))))) ⟨new_same nDk, by rw [upd_same]; rfl⟩ ?_ ?_
          · rintro j H' hj ⟨y, e2⟩
            refine ⟨rfl, ?_⟩
            refine ⟨_, rfl, _, rfl, rfl, _, e2, small1000 (by rw [List.length_map, List.length_range]; omega), fun b o q => by rw [upd_ne (ne_of_none q nDk)]; exact y _ _ q, ?_⟩
            rw [upd_same, List.range_succ, List.map_append]
            have eqb : decide (V.int (0 + (j : Int)) = V.int ((i : Nat) : Int)) = decide (i = j) := by
              by_cases h : i = j
              · subst h; simp
              · have h' : ¬ (V.int (0 + (j : Int)) = V.int ((i : Nat) : Int)) := fun q => h (by have := V.int.inj q; omega)
                rw [decide_eq_false h, decide_eq_false h']
            rw [eqb]
            rfl
          · rintro H11 ⟨y, e2⟩
            have ek' := y _ _ ek
            refine ⟨_, _, .lst (SqL.of ek') (dp_bools (fun j => decide (i = j)) (List.range 38)), .lst (SqL.of e2) (dp_bools (fun j => decide (i = j)) (List.range 38)), shaped_bools _ _, shaped_bools _ _, _, rfl, ?_⟩
            rw [SeqAt.eqv_refl _ (lay_bools' _ _)]
            refine iteF ?_
            have he' := (he.same s10).same y
            refine is1 rfl he' (T.exc i hi) (T.kitP i hi) ⟨true, rfl, iteF ?_⟩
            refine isTy rfl he' (T.exc i hi) (T.kitV i hi) ⟨true, rfl, iteF ?_⟩
            exact ⟨(z9.trans s10).trans y, _, _, rfl⟩
      · rintro σ H8 ⟨z8, g6, g7, rfl⟩
        have ev8 := ev7.same z8
        -- [1 for item in threes_here if repr(..) != repr(..)] != []
        refine ⟨_, rfl, p, rfl, ⟨_, SqL.of (z8 _ _ th7)⟩, fun D2 nD2 => ?_⟩
        refine lc_list (K := K) (a := p) (xs := ts.map V.ref) (fun i H' => Same H8 H' ∧ H' D2 = some (.lst [])) ⟨new_same nD2, upd_same⟩ (fun i H' _ ⟨z, _⟩ => SqL.of (z _ _ (z8 _ _ th7))) ?_ ?_
        · rintro i y H' hy ⟨z, e1⟩
          rw [List.getElem?_map] at hy
          cases et : ts[i]? with
          | none => rw [et] at hy; cases hy
          | some t =>
            rw [et] at hy
            obtain rfl := Option.some.inj hy
            obtain ⟨e, g2⟩ := each7 i t et
            have g2' := z _ _ (z8 _ _ g2)
            refine ⟨rfl, ?_⟩
            refine ⟨_, rfl, t, _, 1, v, rfl, rfl, .inl (.inl g2'), atI_nat (j := 1) rfl, _, rfl, t, _, 2, v, rfl, rfl, .inl (.inl g2'), atI_nat (j := 2) rfl, by show 2 ≤ sizeLine; decide, fun l1 xl1 nl1 => ?_⟩
            have m1 : Same H' (upd H' l1 (.lst [v, v])) := new_same nl1
            have evA := (ev8.same z).same m1
            refine ⟨l1, .list [dv, dv], rfl, fun X hX => ReadsV.lst xl1 upd_same (.cons evA.reads (.cons evA.reads .nil)), evA.shows.1, evA.shows.2.1, evA.shows.2.2, ?_⟩
            generalize upd H' l1 (.lst [v, v]) = HA at m1 evA ⊢
            refine ⟨_, rfl, _, rfl, by show 2 ≤ sizeLine; decide, fun l2 xl2 nl2 => ?_⟩
            have m2 : Same HA (upd HA l2 (.lst [v, v])) := new_same nl2
            have evB := evA.same m2
            refine ⟨l2, .list [dv, dv], rfl, fun X hX => ReadsV.lst xl2 upd_same (.cons evB.reads (.cons evB.reads .nil)), evB.shows.1, evB.shows.2.1, evB.shows.2.2, ?_⟩
            refine ⟨rfl, _, rfl, ?_⟩
            refine iteNS rfl ?_
            exact ⟨(z.trans m1).trans m2, m2 _ _ (m1 _ _ e1)⟩
        · rintro H' ⟨z, e1⟩
          refine ⟨Nat.zero_le _, fun q2 nq2 => ?_⟩
          have m3 : Same H' (upd H' q2 (.lst [])) := new_same nq2
          refine ⟨.list [], .list [], .lst (SqL.of (m3 _ _ e1)) .nil, .lst (SqL.of upd_same) .nil, rfl, rfl, _, rfl, ?_⟩
          refine iteF ?_
          -- base_here = PlayError('w')
          intro b nb
          have hb : IsErr (upd (upd H' q2 (.lst [])) b (ExO (.ref cP) b)) b cP := .inl upd_same
          refine ⟨_, rfl, b, cP, fun _ => false, rfl, hb, T.excP, fun j hj => T.pKit j hj, fun pk Hk sk ek => ?_⟩
          refine ⟨pk, _, rfl, .inl (SqL.of ek), rfl, by decide, true, by decide, iteT ?_⟩
          exact isTy rfl (hb.same sk) T.excP T.pV (k _)
end
end K0
namespace K0
open PySem PySem.Spec PyProof.Rows L2
/-! ### what the top has written -/
abbrev veM : List Value := [.type "ValueError", .type "Exception", .type "BaseException", .type "object"]
/-- of one class, over PlayError at cP -/
structure ClsF (K : PySem.W.Frag) (cP C : Addr) : Prop where
  cl : ∃ cd : ClassData, PySem.W.clsIn K C = some cd ∧ cd.mro = .ref C :: .ref cP :: veM ∧ cd.hasDict = true
  ty : PySem.W.typeIn K (.ref C) = some (.type "type")
  ga : PySem.W.findIn K (.ref C) "__getattribute__" = some (some (.builtin "BaseException.__getattribute__"))
  gg : PySem.W.findIn K (.ref C) "__getattr__" = some none
  gc : PySem.W.findIn K (.ref C) "__class__" = some (some (.builtin "object.__class__"))
structure PlayF (K : PySem.W.Frag) (cP : Addr) : Prop where
  cl : ∃ cd : ClassData, PySem.W.clsIn K cP = some cd ∧ cd.mro = .ref cP :: veM ∧ cd.hasDict = true
  ty : PySem.W.typeIn K (.ref cP) = some (.type "type")
  ga : PySem.W.findIn K (.ref cP) "__getattribute__" = some (some (.builtin "BaseException.__getattribute__"))
  gg : PySem.W.findIn K (.ref cP) "__getattr__" = some none
  gc : PySem.W.findIn K (.ref cP) "__class__" = some (some (.builtin "object.__class__"))
section
variable {K : PySem.W.Frag} {cP C C' : Addr} {cd : ClassData} {m : List Value}
theorem sub_mro {b : Value} {r : Bool} (e : PySem.W.clsIn K C = some cd) (h : cd.mro = m) (hm : m ≠ []) (hb : m.contains b = r) : PySem.W.subIn K (.ref C) b = some r := by
  show PySem.W.mroIn K C b = some r
  unfold PySem.W.mroIn
  rw [e, Option.bind_some, h, hb, if_neg]
  intro z
  rw [List.isEmpty_iff] at z
  exact hm z
theorem kit_cls {r : Bool} (e : ∃ cd : ClassData, PySem.W.clsIn K C' = some cd) (ty : PySem.W.typeIn K (.ref C') = some (.type "type")) (ne : C ≠ C') (s : PySem.W.subIn K (.ref C) (.ref C') = some r) : PySem.W.kitOne K (.ref C) (.ref C') = some r := by
  obtain ⟨cd, e⟩ := e
  have q : (Value.ref C == Value.ref C') = false := by simp [ne]
  show (if (Value.ref C == Value.ref C') = true then some true else PySem.W.kitCls K (.ref C) (.ref C')) = some r
  rw [q, if_neg Bool.false_ne_true]
  show (if ((PySem.W.clsIn K C').isSome && PySem.W.typeIn K (.ref C') == some (.type "type")) = true then PySem.W.subIn K (.ref C) (.ref C') else none) = some r
  rw [e, ty, if_pos (by simp)]
  exact s
theorem kit_type {r : Bool} (s : PySem.W.subIn K (.ref C) (.type "ValueError") = some r) : PySem.W.kitOne K (.ref C) (.type "ValueError") = some r := by
  show (if (Value.ref C == Value.type "ValueError") = true then some true else PySem.W.kitCls K (.ref C) (.type "ValueError")) = some r
  rw [show (Value.ref C == Value.type "ValueError") = false from rfl, if_neg Bool.false_ne_true]
  show (if PySem.W.kitMeta "ValueError" = true then PySem.W.subIn K (.ref C) (.type "ValueError") else none) = some r
  rw [if_pos (by decide +kernel)]
  exact s
theorem kit_self : PySem.W.kitOne K (.ref C) (.ref C) = some true := by
  show (if (Value.ref C == Value.ref C) = true then some true else _) = some true
  rw [if_pos (by simp)]
theorem has_dict (e : PySem.W.clsIn K C = some cd) (h : cd.hasDict = true) : PySem.W.hasDictIn K C = true := by
  unfold PySem.W.hasDictIn
  rw [e]
  exact h
/-- what is asked of object.__class__ -/
structure ObjF (K : PySem.W.Frag) : Prop where
  hn : PySem.W.specialIn K (.builtin "object.__class__") "__get__" = some (some (.builtin "getset_descriptor.__get__"))
  ht : PySem.W.takesIn K (.builtin "object.__class__") = some true
theorem ClsF.exc (f : ClsF K cP C) (o : ObjF K) : ExcC K C := by
  obtain ⟨cd, e, h, hd⟩ := f.cl
  exact ⟨f.ga, f.gg, sub_mro e h (by simp) (by simp), has_dict e hd, f.gc, o.hn, o.ht, sub_mro e h (by simp) (by simp)⟩
theorem PlayF.exc (f : PlayF K cP) (o : ObjF K) : ExcC K cP := by
  obtain ⟨cd, e, h, hd⟩ := f.cl
  exact ⟨f.ga, f.gg, sub_mro e h (by simp) (by simp), has_dict e hd, f.gc, o.hn, o.ht, sub_mro e h (by simp) (by simp)⟩
theorem ClsF.no (f : ClsF K cP C) (g : ClsF K cP C') (ne : C ≠ C') (nP : C' ≠ cP) : PySem.W.kitOne K (.ref C) (.ref C') = some false := by
  obtain ⟨cd, e, h, _⟩ := f.cl
  obtain ⟨cd', e', _⟩ := g.cl
  exact kit_cls ⟨_, e'⟩ g.ty ne (sub_mro e h (by simp) (by simp [ne.symm, nP]))
theorem ClsF.play (f : ClsF K cP C) (g : PlayF K cP) (nP : C ≠ cP) : PySem.W.kitOne K (.ref C) (.ref cP) = some true := by
  obtain ⟨cd, e, h, _⟩ := f.cl
  obtain ⟨cd', e', _⟩ := g.cl
  exact kit_cls ⟨_, e'⟩ g.ty nP (sub_mro e h (by simp) (by simp))
theorem ClsF.ve (f : ClsF K cP C) : PySem.W.kitOne K (.ref C) (.type "ValueError") = some true := by
  obtain ⟨cd, e, h, _⟩ := f.cl
  exact kit_type (sub_mro e h (by simp) (by simp))
theorem PlayF.ve (f : PlayF K cP) : PySem.W.kitOne K (.ref cP) (.type "ValueError") = some true := by
  obtain ⟨cd, e, h, _⟩ := f.cl
  exact kit_type (sub_mro e h (by simp) (by simp))
theorem PlayF.no (f : PlayF K cP) (g : ClsF K cP C') (nP : C' ≠ cP) : PySem.W.kitOne K (.ref cP) (.ref C') = some false := by
  obtain ⟨cd, e, h, _⟩ := f.cl
  obtain ⟨cd', e', _⟩ := g.cl
  exact kit_cls ⟨_, e'⟩ g.ty nP.symm (sub_mro e h (by simp) (by simp [nP]))
/-- PlayError's way to ValueError.__init__ -/
theorem ClsF.sup (f : ClsF K cP C) (g : PlayF K cP) (nP : C ≠ cP) (hi : PySem.W.findIn K (.ref cP) "__init__" = some (some (.builtin "ValueError.__init__"))) : PySem.W.ks_superIn K C C "__init__" = some (some (.builtin "ValueError.__init__")) := by
  obtain ⟨cd, e, h, _⟩ := f.cl
  obtain ⟨cd', e', h', _⟩ := g.cl
  have along : PySem.W.alongIn K "__init__" (.ref cP :: veM) = some (some (.builtin "ValueError.__init__")) := by
    have q := hi
    unfold PySem.W.findIn at q
    dsimp only at q
    unfold PySem.W.clsIn at e'
    revert q e'
    cases K.lookup cP with
    | none => intro e'; cases e'
    | some ob =>
      obtain ⟨oc, od, da, osl⟩ := ob
      cases da <;> intro e' q <;> first | (cases e'; done) | (obtain rfl := Option.some.inj e'; have q' : PySem.W.alongIn K "__init__" _ = _ := q; rw [h'] at q'; exact q')
  unfold PySem.W.ks_superIn
  rw [e, Option.bind_some, h]
  have dr : ((Value.ref C :: .ref cP :: veM).dropWhile (· != .ref C)).drop 1 = .ref cP :: veM := by simp [List.dropWhile_cons]
  rw [dr]
  exact along
end
end K0
namespace K0
open PySem PySem.Spec PyProof.Rows L2
section
variable {K : PySem.W.Frag} {mg : Str → Option Value} {cP C fI : Addr} {cd : ClassData}
theorem clsF_mk (e : PySem.W.clsIn K C = some cd) (m : cd.mro = .ref C :: .ref cP :: veM) (d : cd.hasDict = true) (t : PySem.W.typeIn K (.ref C) = some (.type "type"))
    (a : PySem.W.findIn K (.ref C) "__getattribute__" = some (some (.builtin "BaseException.__getattribute__"))) (b : PySem.W.findIn K (.ref C) "__getattr__" = some none) (c : PySem.W.findIn K (.ref C) "__class__" = some (some (.builtin "object.__class__"))) : ClsF K cP C :=
  ⟨⟨cd, e, m, d⟩, t, a, b, c⟩
theorem playF_mk (e : PySem.W.clsIn K cP = some cd) (m : cd.mro = .ref cP :: veM) (d : cd.hasDict = true) (t : PySem.W.typeIn K (.ref cP) = some (.type "type"))
    (a : PySem.W.findIn K (.ref cP) "__getattribute__" = some (some (.builtin "BaseException.__getattribute__"))) (b : PySem.W.findIn K (.ref cP) "__getattr__" = some none) (c : PySem.W.findIn K (.ref cP) "__class__" = some (some (.builtin "object.__class__"))) : PlayF K cP :=
  ⟨⟨cd, e, m, d⟩, t, a, b, c⟩
/-- names and what they mean, one by one -/
inductive NsAll (K : PySem.W.Frag) : List Str → List Addr → Prop
  | nil : NsAll K [] []
  | cons {x : Str} {C : Addr} {xs : List Str} {cs : List Addr} (h : PySem.W.nsIn K mainGlobals x = some (some (.ref C))) (t : NsAll K xs cs) : NsAll K (x :: xs) (C :: cs)
theorem NsAll.at_ {xs : List Str} {cs : List Addr} (n : NsAll K xs cs) : ∀ {i : Nat} {x : Str}, xs[i]? = some x → PySem.W.nsIn K mainGlobals x = some (some (.ref (cs.getD i 0))) := by
  induction n with
  | nil => intro i x e; cases e
  | cons h t ih =>
    intro i x e
    match i, e with
    | 0, e => cases e; exact h
    | i + 1, e => exact ih e
inductive ClsAll (K : PySem.W.Frag) (cP : Addr) : List Addr → Prop
  | nil : ClsAll K cP []
  | cons {C : Addr} {cs : List Addr} (h : ClsF K cP C) (t : ClsAll K cP cs) : ClsAll K cP (C :: cs)
theorem ClsAll.at_ {cs : List Addr} (n : ClsAll K cP cs) : ∀ {i : Nat}, i < cs.length → ClsF K cP (cs.getD i 0) := by
  induction n with
  | nil => intro i e; cases e
  | cons h t ih =>
    intro i e
    match i, e with
    | 0, e => exact h
    | i + 1, e => exact ih (Nat.lt_of_succ_lt_succ e)
inductive ExcAll (K : PySem.W.Frag) : List Addr → Prop
  | nil : ExcAll K []
  | cons {C : Addr} {cs : List Addr} (h : PySem.W.excIn K C [.type "ValueError", .type "Exception", .type "BaseException", .type "object"] "ValueError.__new__" = true) (k : PySem.W.keepIn K (.ref C) = true) (t : ExcAll K cs) : ExcAll K (C :: cs)
theorem ExcAll.at_ {cs : List Addr} (n : ExcAll K cs) : ∀ {i : Nat}, i < cs.length → PySem.W.excIn K (cs.getD i 0) [.type "ValueError", .type "Exception", .type "BaseException", .type "object"] "ValueError.__new__" = true ∧ PySem.W.keepIn K (.ref (cs.getD i 0)) = true := by
  induction n with
  | nil => intro i e; cases e
  | cons h k t ih =>
    intro i e
    match i, e with
    | 0, e => exact ⟨h, k⟩
    | i + 1, e => exact ih (Nat.lt_of_succ_lt_succ e)
/-- what the top says of an own error with a field, its way to ValueError aside -/
structure ErrF (P : Program) (K : PySem.W.Frag) (C fI : Addr) (pn : Str) : Prop where
  oex : OexC K C
  iC : PySem.W.findIn K (.ref C) "__init__" = some (some (.ref fI))
  tI : PySem.W.typeIn K (.ref fI) = some (.type "function")
  noN : PySem.W.findIn K (.ref C) pn = some none
  fn : ∃ (oc : Value) (od : Option Addr) (kV doc pm ct : Value) (an : Option Addr) (osl : Array (Option Value)) (cc cda : Addr) (qual msg : Str) (k0 : Nat) (p1 p2 q0 q1 q2 q3 q4 q5 q6 q7 q8 q9 : Pos)
      (cl ccl : Value) (cld cdd : Option Addr) (csl ccs : Array (Option Value)) (vs : Array Value) (file : Str) (tf : Tok),
    K.lookup fI = some ⟨oc, od, .func (PySem.W.fnX "__init__" qual (Er.eArgs pn p1 p2) (Er.eBody pn msg k0 q0 q1 q2 q3 q4 q5 q6 q7 q8 q9) (Er.eScope pn) [("__class__", cc)] .none kV doc pm an (.ref cda) ct), osl⟩ ∧
    PySem.W.codeIn K (.ref cda) qual = true ∧ K.lookup cc = some ⟨cl, cld, .cell (some (.ref C)), csl⟩ ∧ K.lookup cda = some ⟨ccl, cdd, .fields vs, ccs⟩ ∧ vs[2]? = some (.str file tf) ∧ ((P.main.file : Str) == file) = true ∧ (q2.endLine == q4.line) = true
  pn : Er.PnOk pn
theorem errF_mk {P : Program} {pn : Str} {nm q : Str} {N : Addr} {bs : List Value} {bm : List Value} {sn : List Str} {sub : List Value} {ab : Bool} {col : Option Bool} {dd : Option Addr} {m0 m1 m2 m3 m5 : Option Value}
    {oc kV doc pm ct cl ccl : Value} {od an cld cdd : Option Addr} {osl csl ccs : Array (Option Value)} {cc cda : Addr} {qual msg : Str} {k0 : Nat} {p1 p2 q0 q1 q2 q3 q4 q5 q6 q7 q8 q9 : Pos} {vs : Array Value} {file : Str} {tf : Tok}
    (xL : K.lookup C = some (excClassObj nm q C N bs bm true sn sub ab col dd m0 m1 m2 m3 m5 "ValueError.__new__")) (rf : PySem.HandSPX.refsVE bm = true)
    (sa : PySem.W.findIn K (.ref C) "__setattr__" = some (some (.builtin "object.__setattr__"))) (eC : PySem.W.subIn K (.ref C) (.type "BaseException") = some true) (tC : PySem.W.typeIn K (.ref C) = some (.type "type")) (kC : PySem.W.keepIn K (.ref C) = true)
    (iC : PySem.W.findIn K (.ref C) "__init__" = some (some (.ref fI))) (tI : PySem.W.typeIn K (.ref fI) = some (.type "function")) (noN : PySem.W.findIn K (.ref C) pn = some none)
    (l : K.lookup fI = some ⟨oc, od, .func (PySem.W.fnX "__init__" qual (Er.eArgs pn p1 p2) (Er.eBody pn msg k0 q0 q1 q2 q3 q4 q5 q6 q7 q8 q9) (Er.eScope pn) [("__class__", cc)] .none kV doc pm an (.ref cda) ct), osl⟩)
    (cI : PySem.W.codeIn K (.ref cda) qual = true) (lc : K.lookup cc = some ⟨cl, cld, .cell (some (.ref C)), csl⟩) (ld : K.lookup cda = some ⟨ccl, cdd, .fields vs, ccs⟩) (v2 : vs[2]? = some (.str file tf))
    (fl : ((P.main.file : Str) == file) = true) (ln : (q2.endLine == q4.line) = true) (po : Er.PnOk pn) : ErrF P K C fI pn :=
  ⟨⟨⟨nm, q, N, bs, bm, sn, sub, ab, col, dd, m0, m1, m2, m3, m5, xL, rf⟩, sa, eC, tC, kC⟩, iC, tI, noN, ⟨oc, od, kV, doc, pm, ct, an, osl, cc, cda, qual, msg, k0, p1, p2, q0, q1, q2, q3, q4, q5, q6, q7, q8, q9, cl, ccl, cld, cdd, csl, ccs, vs, file, tf, l, cI, lc, ld, v2, fl, ln⟩, po⟩
inductive ErrAll (P : Program) (K : PySem.W.Frag) : List Str → List Addr → List Addr → Prop
  | nil : ErrAll P K [] [] []
  | cons {x : Str} {C f : Addr} {xs : List Str} {cs fs : List Addr} (h : ErrF P K C f x) (t : ErrAll P K xs cs fs) : ErrAll P K (x :: xs) (C :: cs) (f :: fs)
theorem ErrAll.at_ {P : Program} {xs : List Str} {cs fs : List Addr} (n : ErrAll P K xs cs fs) : ∀ {i : Nat} {x : Str}, xs[i]? = some x → ErrF P K (cs.getD i 0) (fs.getD i 0) x := by
  induction n with
  | nil => intro i x e; cases e
  | cons h t ih =>
    intro i x e
    match i, e with
    | 0, e => cases e; exact h
    | i + 1, e => exact ih e
theorem errTxt_of {P : Program} {pn : Str} (E : ErrF P K C fI pn) (f : ClsF K cP C) (g : PlayF K cP) (nP : C ≠ cP) (hi : PySem.W.findIn K (.ref cP) "__init__" = some (some (.builtin "ValueError.__init__"))) (any : PySem.W.nsIn K cStatics "thirdparty.any" = some none)
    (mgS : mg "super" = none) (top : (P.main.scope.names.lookup ("super" : Str)).isSome = false) : Er.ErrTxt P K mg C fI pn := by
  obtain ⟨cd, e, h, _⟩ := id f.cl
  exact ⟨E.oex, E.iC, E.tI, E.noN, E.fn, any, f.sup g nP hi, sub_mro e h (by simp) (by simp), sub_mro e h (by simp) (by simp), mgS, top, E.pn⟩
theorem getD_take {l : List Addr} {i n : Nat} (h : i < n) : (l.take n).getD i 0 = l.getD i 0 := by
  simp [List.getD_eq_getElem?_getD, List.getElem?_take, h]
theorem getD_drop {l : List Addr} {i n : Nat} : (l.drop n).getD i 0 = l.getD (n + i) 0 := by
  simp [List.getD_eq_getElem?_getD, List.getElem?_drop]
theorem getD_mem {l : List Addr} {i : Nat} (h : i < l.length) : l.getD i 0 ∈ l := by
  rw [List.getD_eq_getElem?_getD, List.getElem?_eq_getElem h]
  exact List.getElem_mem h
theorem nd_no {C : Addr} {cs : List Addr} (n : (C :: cs).Nodup) {j : Nat} (hj : j < cs.length) : C ≠ cs.getD j 0 := fun q => (List.nodup_cons.mp n).1 (q ▸ getD_mem hj)
theorem nd_ne : ∀ {l : List Addr} (_ : l.Nodup) {i j : Nat}, i < l.length → j < l.length → i ≠ j → l.getD i 0 ≠ l.getD j 0
  | [], _, _, _, hi, _, _ => absurd hi (Nat.not_lt_zero _)
  | _ :: _, _, 0, 0, _, _, hn => absurd rfl hn
  | _ :: _, n, 0, _ + 1, _, hj, _ => nd_no n (Nat.lt_of_succ_lt_succ hj)
  | _ :: _, n, _ + 1, 0, hi, _, _ => (nd_no n (Nat.lt_of_succ_lt_succ hi)).symm
  | _ :: _, n, _ + 1, _ + 1, hi, hj, hn => nd_ne (List.nodup_cons.mp n).2 (Nat.lt_of_succ_lt_succ hi) (Nat.lt_of_succ_lt_succ hj) fun q => hn (congrArg _ q)
theorem txt_mk {P : Program} {cs fs : List Addr} {h : Heap} (X : K.In h) (G : h.Ns mainGlobals mg) (len : cs.length = 38) (nsA : NsAll K nms cs) (nP : PySem.W.nsIn K mainGlobals "PlayError" = some (some (.ref cP))) (nd : cs.Nodup) (out : ∀ C ∈ cs, C ≠ cP)
    (clA : ClsAll K cP cs) (plP : PlayF K cP) (ob : ObjF K) (exA : ExcAll K (cs.take 26)) (exP : PySem.W.excIn K cP [.type "ValueError", .type "Exception", .type "BaseException", .type "object"] "ValueError.__new__" = true) (kP : PySem.W.keepIn K (.ref cP) = true)
    (erA : ErrAll P K pns (cs.drop 26) fs) (hi : PySem.W.findIn K (.ref cP) "__init__" = some (some (.builtin "ValueError.__init__"))) (any : PySem.W.nsIn K cStatics "thirdparty.any" = some none) (top : (P.main.scope.names.lookup ("super" : Str)).isSome = false)
    (zS : PySem.W.nsIn K mainGlobals "super" = some none) (zI : PySem.W.nsIn K mainGlobals "isinstance" = some none) (zR : PySem.W.nsIn K mainGlobals "range" = some none) (zE : PySem.W.nsIn K mainGlobals "enumerate" = some none)
    (zP : PySem.W.nsIn K mainGlobals "repr" = some none) (zV : PySem.W.nsIn K mainGlobals "ValueError" = some none) : Txt P K mg (fun i => cs.getD i 0) cP (fun i => fs.getD i 0) := by
  have cl : ∀ {i : Nat}, i < 38 → ClsF K cP (cs.getD i 0) := fun hi => clA.at_ (by rw [len]; exact hi)
  have ne : ∀ {i : Nat}, i < 38 → cs.getD i 0 ≠ cP := fun hi => out _ (getD_mem (by rw [len]; exact hi))
  refine ⟨fun i x e => PySem.W.mg_of X G (nsA.at_ e), fun i j hi hj => ?_, fun i hi => (cl hi).exc ob, fun i hi => (cl hi).play plP (ne hi), fun i hi => (cl hi).ve, PySem.W.mg_of X G nP, plP.exc ob, fun j hj => plP.no (cl hj) (ne hj), plP.ve, fun i hi => ?_, ⟨exP, kP⟩, fun i x e => ?_,
    PySem.W.mg_none_of X G zI, PySem.W.mg_none_of X G zR, PySem.W.mg_none_of X G zE, PySem.W.mg_none_of X G zP, PySem.W.mg_none_of X G zV⟩
  · by_cases q : i = j
    · subst q
      rw [decide_eq_true rfl]
      exact kit_self
    · rw [decide_eq_false q]
      exact (cl hi).no (cl hj) (nd_ne nd (by rw [len]; exact hi) (by rw [len]; exact hj) q) (ne hj)
  · have z := exA.at_ (i := i) (by rw [List.length_take, len]; exact hi)
    rw [getD_take hi] at z
    exact z
  · have lt : i < 12 := (List.getElem?_eq_some_iff.mp e).1
    have z := erA.at_ e
    rw [getD_drop] at z
    have l38 : 26 + i < 38 := by omega
    exact errTxt_of z (cl l38) plP (ne l38) hi any (PySem.W.mg_none_of X G zS) top

theorem all_mk {P : Program} {w : World} {h : Heap} {fa : Addr} {cs fs : List Addr} {fB fM fK fQ fA fS fE fT fL : Addr} (X : K.In h) (G : h.Ns mainGlobals mg) (hfa : mg "law" = some (.ref fa))
    (len : cs.length = 38) (nsA : NsAll K nms cs) (nP : PySem.W.nsIn K mainGlobals "PlayError" = some (some (.ref cP))) (nd : cs.Nodup) (out : ∀ C ∈ cs, C ≠ cP)
    (clA : ClsAll K cP cs) (plP : PlayF K cP) (obn : PySem.W.specialIn K (.builtin "object.__class__") "__get__" = some (some (.builtin "getset_descriptor.__get__"))) (obt : PySem.W.takesIn K (.builtin "object.__class__") = some true)
    (exA : ExcAll K (cs.take 26)) (exP : PySem.W.excIn K cP [.type "ValueError", .type "Exception", .type "BaseException", .type "object"] "ValueError.__new__" = true) (kcP : PySem.W.keepIn K (.ref cP) = true)
    (erA : ErrAll P K pns (cs.drop 26) fs) (hi : PySem.W.findIn K (.ref cP) "__init__" = some (some (.builtin "ValueError.__init__"))) (any : PySem.W.nsIn K cStatics "thirdparty.any" = some none) (top : (P.main.scope.names.lookup ("super" : Str)).isSome = false)
    (zS : PySem.W.nsIn K mainGlobals "super" = some none) (zI : PySem.W.nsIn K mainGlobals "isinstance" = some none) (zR : PySem.W.nsIn K mainGlobals "range" = some none) (zE : PySem.W.nsIn K mainGlobals "enumerate" = some none)
    (zP : PySem.W.nsIn K mainGlobals "repr" = some none) (zV : PySem.W.nsIn K mainGlobals "ValueError" = some none) (zA : PySem.W.nsIn K mainGlobals "abs" = some none) (zN : PySem.W.nsIn K mainGlobals "int" = some none) (zL : PySem.W.nsIn K mainGlobals "len" = some none)
    {ocB kVB dcB pmB cdB ctB : Value} {odB anB : Option Addr} {slB : Array (Option Value)} (aB : PySem.W.nsIn K mainGlobals "_law_begun" = some (some (.ref fB))) (lB : K.lookup fB = some ⟨ocB, odB, .func (PySem.W.fnOf "_law_begun" "_law_begun" (defArgs Dr.sBegun) (defBody Dr.sBegun) (defScope Dr.sBegun) .none kVB dcB pmB anB cdB ctB), slB⟩) (cB : PySem.W.codeIn K cdB "_law_begun" = true) (kB : PySem.W.keepIn K (.ref fB) = true)
    {ocM kVM dcM pmM cdM ctM : Value} {odM anM : Option Addr} {slM : Array (Option Value)} (aM : PySem.W.nsIn K mainGlobals "_law_mixed" = some (some (.ref fM))) (lM : K.lookup fM = some ⟨ocM, odM, .func (PySem.W.fnOf "_law_mixed" "_law_mixed" (defArgs Dr.sMixed) (defBody Dr.sMixed) (defScope Dr.sMixed) .none kVM dcM pmM anM cdM ctM), slM⟩) (cM : PySem.W.codeIn K cdM "_law_mixed" = true) (kM : PySem.W.keepIn K (.ref fM) = true)
    {ocK kVK dcK pmK cdK ctK : Value} {odK anK : Option Addr} {slK : Array (Option Value)} (aK : PySem.W.nsIn K mainGlobals "_law_take" = some (some (.ref fK))) (lK : K.lookup fK = some ⟨ocK, odK, .func (PySem.W.fnOf "_law_take" "_law_take" (defArgs Dr.sTake) (defBody Dr.sTake) (defScope Dr.sTake) .none kVK dcK pmK anK cdK ctK), slK⟩) (cK : PySem.W.codeIn K cdK "_law_take" = true) (kK : PySem.W.keepIn K (.ref fK) = true)
    {ocQ kVQ dcQ pmQ cdQ ctQ : Value} {odQ anQ : Option Addr} {slQ : Array (Option Value)} (aQ : PySem.W.nsIn K mainGlobals "_law_pick" = some (some (.ref fQ))) (lQ : K.lookup fQ = some ⟨ocQ, odQ, .func (PySem.W.fnOf "_law_pick" "_law_pick" (defArgs Dr.sPick) (defBody Dr.sPick) (defScope Dr.sPick) .none kVQ dcQ pmQ anQ cdQ ctQ), slQ⟩) (cQ : PySem.W.codeIn K cdQ "_law_pick" = true) (kQ : PySem.W.keepIn K (.ref fQ) = true)
    {ocA kVA dcA pmA cdA ctA : Value} {odA anA : Option Addr} {slA : Array (Option Value)} (aA : PySem.W.nsIn K mainGlobals "_law_any" = some (some (.ref fA))) (lA : K.lookup fA = some ⟨ocA, odA, .func (PySem.W.fnOf "_law_any" "_law_any" (defArgs sAny) (defBody sAny) (defScope sAny) .none kVA dcA pmA anA cdA ctA), slA⟩) (cA : PySem.W.codeIn K cdA "_law_any" = true) (kA : PySem.W.keepIn K (.ref fA) = true)
    {ocS kVS dcS pmS cdS ctS : Value} {odS anS : Option Addr} {slS : Array (Option Value)} (aS : PySem.W.nsIn K mainGlobals "_law_kinds" = some (some (.ref fS))) (lS : K.lookup fS = some ⟨ocS, odS, .func (PySem.W.fnOf "_law_kinds" "_law_kinds" (defArgs sKinds) (defBody sKinds) (defScope sKinds) .none kVS dcS pmS anS cdS ctS), slS⟩) (cS : PySem.W.codeIn K cdS "_law_kinds" = true) (kS : PySem.W.keepIn K (.ref fS) = true)
    {ocE kVE dcE pmE cdE ctE : Value} {odE anE : Option Addr} {slE : Array (Option Value)} (aE : PySem.W.nsIn K mainGlobals "_law_plain_errors" = some (some (.ref fE))) (lE : K.lookup fE = some ⟨ocE, odE, .func (PySem.W.fnOf "_law_plain_errors" "_law_plain_errors" (defArgs sPlain) (defBody sPlain) (defScope sPlain) .none kVE dcE pmE anE cdE ctE), slE⟩) (cE : PySem.W.codeIn K cdE "_law_plain_errors" = true) (kE : PySem.W.keepIn K (.ref fE) = true)
    {ocT kVT dcT pmT cdT ctT : Value} {odT anT : Option Addr} {slT : Array (Option Value)} (aT : PySem.W.nsIn K mainGlobals "_law_errors_of" = some (some (.ref fT))) (lT : K.lookup fT = some ⟨ocT, odT, .func (PySem.W.fnOf "_law_errors_of" "_law_errors_of" (defArgs sThrees) (defBody sThrees) (defScope sThrees) .none kVT dcT pmT anT cdT ctT), slT⟩) (cT : PySem.W.codeIn K cdT "_law_errors_of" = true) (kT : PySem.W.keepIn K (.ref fT) = true)
    {ocL kVL dcL pmL cdL ctL : Value} {odL anL : Option Addr} {slL : Array (Option Value)} (aL : PySem.W.nsIn K mainGlobals "law" = some (some (.ref fL))) (lL : K.lookup fL = some ⟨ocL, odL, .func (PySem.W.fnOf "law" "law" (defArgs sLaw) (defBody sLaw) (defScope sLaw) .none kVL dcL pmL anL cdL ctL), slL⟩) (cL : PySem.W.codeIn K cdL "law" = true) (kL : PySem.W.keepIn K (.ref fL) = true) :
    ∃ fd : FuncData, (∀ (s : Shared) (v : Value), BindsTo s fd ⟨[v], []⟩ [("script", v)]) ∧ ∀ base : Heap, K.In base → base.Ns mainGlobals mg → FnOkG P w K mg base 5 fa fd ["script"] (spLaw K) := by
  have e := hfa.symm.trans (PySem.W.mg_of X G aL)
  cases e
  have T : Txt P K mg (fun i => cs.getD i 0) cP (fun i => fs.getD i 0) := txt_mk X G len nsA nP nd out clA plP ⟨obn, obt⟩ exA exP kcP erA hi any top zS zI zR zE zP zV
  have FB := fun_mk (st := Dr.sBegun) lB cB kB
  have bB := FB.binds (ps := ["script"]) fun _ _ _ _ _ _ us hl => match us, hl with | [_], _ => rfl
  have FM := fun_mk (st := Dr.sMixed) lM cM kM
  have bM := FM.binds (ps := ["draw"]) fun _ _ _ _ _ _ us hl => match us, hl with | [_], _ => rfl
  have FK := fun_mk (st := Dr.sTake) lK cK kK
  have bK := FK.binds (ps := ["draw", "amount"]) fun _ _ _ _ _ _ us hl => match us, hl with | [_, _], _ => rfl
  have FQ := fun_mk (st := Dr.sPick) lQ cQ kQ
  have bQ := FQ.binds (ps := ["draw", "some"]) fun _ _ _ _ _ _ us hl => match us, hl with | [_, _], _ => rfl
  have FA := fun_mk (st := sAny) lA cA kA
  have bA := FA.binds (ps := ["draw"]) fun _ _ _ _ _ _ us hl => match us, hl with | [_], _ => rfl
  have FS := fun_mk (st := sKinds) lS cS kS
  have bS := FS.binds (ps := ["error"]) fun _ _ _ _ _ _ us hl => match us, hl with | [_], _ => rfl
  have FE := fun_mk (st := sPlain) lE cE kE
  have bE := FE.binds (ps := ["words_here"]) fun _ _ _ _ _ _ us hl => match us, hl with | [_], _ => rfl
  have FT := fun_mk (st := sThrees) lT cT kT
  have bT := FT.binds (ps := ["each"]) fun _ _ _ _ _ _ us hl => match us, hl with | [_], _ => rfl
  have FL := fun_mk (st := sLaw) lL cL kL
  refine ⟨PySem.W.fnOf "law" "law" (defArgs sLaw) (defBody sLaw) (defScope sLaw) .none kVL dcL pmL anL cdL ctL, fun s v => .of_eq rfl, fun base _ _ => ?_⟩
  have zn := PySem.W.mg_none_of X G zN
  have gP := Dr.ok_pick (P := P) (w := w) (mg := mg) (base := base) FQ (PySem.W.mg_none_of X G zL) (Dr.ok_take FK zn FM bM (PySem.W.mg_of X G aM)) kK bK (PySem.W.mg_of X G aK)
  exact ok_law FL T ⟨Dr.ok_begun FB (PySem.W.mg_none_of X G zA), PySem.W.mg_of X G aB, kB, bB, gP, PySem.W.mg_of X G aQ, kQ, bQ, ok_any FA gP kQ bQ (PySem.W.mg_of X G aQ), PySem.W.mg_of X G aA, kA, bA,
    ok_kinds FS T, PySem.W.mg_of X G aS, kS, bS, ok_plain FE T, PySem.W.mg_of X G aE, kE, bE, ok_threes FT T, PySem.W.mg_of X G aT, kT, bT⟩

theorem all_mk38 {P : Program} {w : World} {h : Heap} {fa : Addr} {C0 C1 C2 C3 C4 C5 C6 C7 C8 C9 C10 C11 C12 C13 C14 C15 C16 C17 C18 C19 C20 C21 C22 C23 C24 C25 C26 C27 C28 C29 C30 C31 C32 C33 C34 C35 C36 C37 f0 f1 f2 f3 f4 f5 f6 f7 f8 f9 f10 f11 : Addr} {fB fM fK fQ fA fS fE fT fL : Addr} (X : K.In h) (G : h.Ns mainGlobals mg) (hfa : mg "law" = some (.ref fa))
    (len : [C0, C1, C2, C3, C4, C5, C6, C7, C8, C9, C10, C11, C12, C13, C14, C15, C16, C17, C18, C19, C20, C21, C22, C23, C24, C25, C26, C27, C28, C29, C30, C31, C32, C33, C34, C35, C36, C37].length = 38) (nsA : NsAll K nms [C0, C1, C2, C3, C4, C5, C6, C7, C8, C9, C10, C11, C12, C13, C14, C15, C16, C17, C18, C19, C20, C21, C22, C23, C24, C25, C26, C27, C28, C29, C30, C31, C32, C33, C34, C35, C36, C37]) (nP : PySem.W.nsIn K mainGlobals "PlayError" = some (some (.ref cP))) (nd : [C0, C1, C2, C3, C4, C5, C6, C7, C8, C9, C10, C11, C12, C13, C14, C15, C16, C17, C18, C19, C20, C21, C22, C23, C24, C25, C26, C27, C28, C29, C30, C31, C32, C33, C34, C35, C36, C37].Nodup) (out : ∀ C ∈ [C0, C1, C2, C3, C4, C5, C6, C7, C8, C9, C10, C11, C12, C13, C14, C15, C16, C17, C18, C19, C20, C21, C22, C23, C24, C25, C26, C27, C28, C29, C30, C31, C32, C33, C34, C35, C36, C37], C ≠ cP)
    (clA : ClsAll K cP [C0, C1, C2, C3, C4, C5, C6, C7, C8, C9, C10, C11, C12, C13, C14, C15, C16, C17, C18, C19, C20, C21, C22, C23, C24, C25, C26, C27, C28, C29, C30, C31, C32, C33, C34, C35, C36, C37]) (plP : PlayF K cP) (obn : PySem.W.specialIn K (.builtin "object.__class__") "__get__" = some (some (.builtin "getset_descriptor.__get__"))) (obt : PySem.W.takesIn K (.builtin "object.__class__") = some true)
    (exA : ExcAll K ([C0, C1, C2, C3, C4, C5, C6, C7, C8, C9, C10, C11, C12, C13, C14, C15, C16, C17, C18, C19, C20, C21, C22, C23, C24, C25, C26, C27, C28, C29, C30, C31, C32, C33, C34, C35, C36, C37].take 26)) (exP : PySem.W.excIn K cP [.type "ValueError", .type "Exception", .type "BaseException", .type "object"] "ValueError.__new__" = true) (kcP : PySem.W.keepIn K (.ref cP) = true)
    (erA : ErrAll P K pns ([C0, C1, C2, C3, C4, C5, C6, C7, C8, C9, C10, C11, C12, C13, C14, C15, C16, C17, C18, C19, C20, C21, C22, C23, C24, C25, C26, C27, C28, C29, C30, C31, C32, C33, C34, C35, C36, C37].drop 26) [f0, f1, f2, f3, f4, f5, f6, f7, f8, f9, f10, f11]) (hi : PySem.W.findIn K (.ref cP) "__init__" = some (some (.builtin "ValueError.__init__"))) (any : PySem.W.nsIn K cStatics "thirdparty.any" = some none) (top : (P.main.scope.names.lookup ("super" : Str)).isSome = false)
    (zS : PySem.W.nsIn K mainGlobals "super" = some none) (zI : PySem.W.nsIn K mainGlobals "isinstance" = some none) (zR : PySem.W.nsIn K mainGlobals "range" = some none) (zE : PySem.W.nsIn K mainGlobals "enumerate" = some none)
    (zP : PySem.W.nsIn K mainGlobals "repr" = some none) (zV : PySem.W.nsIn K mainGlobals "ValueError" = some none) (zA : PySem.W.nsIn K mainGlobals "abs" = some none) (zN : PySem.W.nsIn K mainGlobals "int" = some none) (zL : PySem.W.nsIn K mainGlobals "len" = some none)
    {ocB kVB dcB pmB cdB ctB : Value} {odB anB : Option Addr} {slB : Array (Option Value)} (aB : PySem.W.nsIn K mainGlobals "_law_begun" = some (some (.ref fB))) (lB : K.lookup fB = some ⟨ocB, odB, .func (PySem.W.fnOf "_law_begun" "_law_begun" (defArgs Dr.sBegun) (defBody Dr.sBegun) (defScope Dr.sBegun) .none kVB dcB pmB anB cdB ctB), slB⟩) (cB : PySem.W.codeIn K cdB "_law_begun" = true) (kB : PySem.W.keepIn K (.ref fB) = true)
    {ocM kVM dcM pmM cdM ctM : Value} {odM anM : Option Addr} {slM : Array (Option Value)} (aM : PySem.W.nsIn K mainGlobals "_law_mixed" = some (some (.ref fM))) (lM : K.lookup fM = some ⟨ocM, odM, .func (PySem.W.fnOf "_law_mixed" "_law_mixed" (defArgs Dr.sMixed) (defBody Dr.sMixed) (defScope Dr.sMixed) .none kVM dcM pmM anM cdM ctM), slM⟩) (cM : PySem.W.codeIn K cdM "_law_mixed" = true) (kM : PySem.W.keepIn K (.ref fM) = true)
    {ocK kVK dcK pmK cdK ctK : Value} {odK anK : Option Addr} {slK : Array (Option Value)} (aK : PySem.W.nsIn K mainGlobals "_law_take" = some (some (.ref fK))) (lK : K.lookup fK = some ⟨ocK, odK, .func (PySem.W.fnOf "_law_take" "_law_take" (defArgs Dr.sTake) (defBody Dr.sTake) (defScope Dr.sTake) .none kVK dcK pmK anK cdK ctK), slK⟩) (cK : PySem.W.codeIn K cdK "_law_take" = true) (kK : PySem.W.keepIn K (.ref fK) = true)
    {ocQ kVQ dcQ pmQ cdQ ctQ : Value} {odQ anQ : Option Addr} {slQ : Array (Option Value)} (aQ : PySem.W.nsIn K mainGlobals "_law_pick" = some (some (.ref fQ))) (lQ : K.lookup fQ = some ⟨ocQ, odQ, .func (PySem.W.fnOf "_law_pick" "_law_pick" (defArgs Dr.sPick) (defBody Dr.sPick) (defScope Dr.sPick) .none kVQ dcQ pmQ anQ cdQ ctQ), slQ⟩) (cQ : PySem.W.codeIn K cdQ "_law_pick" = true) (kQ : PySem.W.keepIn K (.ref fQ) = true)
    {ocA kVA dcA pmA cdA ctA : Value} {odA anA : Option Addr} {slA : Array (Option Value)} (aA : PySem.W.nsIn K mainGlobals "_law_any" = some (some (.ref fA))) (lA : K.lookup fA = some ⟨ocA, odA, .func (PySem.W.fnOf "_law_any" "_law_any" (defArgs sAny) (defBody sAny) (defScope sAny) .none kVA dcA pmA anA cdA ctA), slA⟩) (cA : PySem.W.codeIn K cdA "_law_any" = true) (kA : PySem.W.keepIn K (.ref fA) = true)
    {ocS kVS dcS pmS cdS ctS : Value} {odS anS : Option Addr} {slS : Array (Option Value)} (aS : PySem.W.nsIn K mainGlobals "_law_kinds" = some (some (.ref fS))) (lS : K.lookup fS = some ⟨ocS, odS, .func (PySem.W.fnOf "_law_kinds" "_law_kinds" (defArgs sKinds) (defBody sKinds) (defScope sKinds) .none kVS dcS pmS anS cdS ctS), slS⟩) (cS : PySem.W.codeIn K cdS "_law_kinds" = true) (kS : PySem.W.keepIn K (.ref fS) = true)
    {ocE kVE dcE pmE cdE ctE : Value} {odE anE : Option Addr} {slE : Array (Option Value)} (aE : PySem.W.nsIn K mainGlobals "_law_plain_errors" = some (some (.ref fE))) (lE : K.lookup fE = some ⟨ocE, odE, .func (PySem.W.fnOf "_law_plain_errors" "_law_plain_errors" (defArgs sPlain) (defBody sPlain) (defScope sPlain) .none kVE dcE pmE anE cdE ctE), slE⟩) (cE : PySem.W.codeIn K cdE "_law_plain_errors" = true) (kE : PySem.W.keepIn K (.ref fE) = true)
    {ocT kVT dcT pmT cdT ctT : Value} {odT anT : Option Addr} {slT : Array (Option Value)} (aT : PySem.W.nsIn K mainGlobals "_law_errors_of" = some (some (.ref fT))) (lT : K.lookup fT = some ⟨ocT, odT, .func (PySem.W.fnOf "_law_errors_of" "_law_errors_of" (defArgs sThrees) (defBody sThrees) (defScope sThrees) .none kVT dcT pmT anT cdT ctT), slT⟩) (cT : PySem.W.codeIn K cdT "_law_errors_of" = true) (kT : PySem.W.keepIn K (.ref fT) = true)
    {ocL kVL dcL pmL cdL ctL : Value} {odL anL : Option Addr} {slL : Array (Option Value)} (aL : PySem.W.nsIn K mainGlobals "law" = some (some (.ref fL))) (lL : K.lookup fL = some ⟨ocL, odL, .func (PySem.W.fnOf "law" "law" (defArgs sLaw) (defBody sLaw) (defScope sLaw) .none kVL dcL pmL anL cdL ctL), slL⟩) (cL : PySem.W.codeIn K cdL "law" = true) (kL : PySem.W.keepIn K (.ref fL) = true) :
    ∃ fd : FuncData, (∀ (s : Shared) (v : Value), BindsTo s fd ⟨[v], []⟩ [("script", v)]) ∧ ∀ base : Heap, K.In base → base.Ns mainGlobals mg → FnOkG P w K mg base 5 fa fd ["script"] (spLaw K) :=
  all_mk X G hfa len nsA nP nd out clA plP obn obt exA exP kcP erA hi any top zS zI zR zE zP zV zA zN zL aB lB cB kB aM lM cM kM aK lK cK kK aQ lQ cQ kQ aA lA cA kA aS lS cS kS aE lE cE kE aT lT cT kT aL lL cL kL
end
end K0
open PySem PySem.W PyProof.Rows in
set_option maxRecDepth 100000 in
set_option maxHeartbeats 0 in
theorem PySem.Challenge.cw_playsalike_k00_errors_of_all_parts_holds : PySem.Challenge.rw_playsalike_k00_errors_of_all_parts.Holds := by
  w_on; o_law; k_head; (case hw => w_witness2)
  k_fill
  refine L2.walk_guard (l := PySem.Challenge.rw_playsalike_k00_errors_of_all_parts) (n := 63) (k := 5) (x := "script") (sp := fun K => K0.spLaw K) rfl (by decide) rfl ⟨rfl, by decide, by decide⟩ (fun w h Y => PySem.W.kIn_of Y) ?F (fun _ _ a ns hl _ hS => ⟨a, ns, rfl, hS, hl, fun _ => rfl⟩)
  case F =>
    intro w mg fa h KX G hmg
    refine' K0.all_mk38 KX G hmg ?len ?nsA ?nP ?nd ?out ?clA ?plP ?obn ?obt ?exA ?exP ?kcP ?erA ?hi ?any ?top ?zS ?zI ?zR ?zE ?zP ?zV ?zA ?zN ?zL ?aB ?lB ?cB ?kB ?aM ?lM ?cM ?kM ?aK ?lK ?cK ?kK ?aQ ?lQ ?cQ ?kQ ?aA ?lA ?cA ?kA ?aS ?lS ?cS ?kS ?aE ?lE ?cE ?kE ?aT ?lT ?cT ?kT ?aL ?lL ?cL ?kL
    (case len => rfl)
    (case nP => k_is)
    (case nsA =>
      refine' .cons ?_ (.cons ?_ (.cons ?_ (.cons ?_ (.cons ?_ (.cons ?_ (.cons ?_ (.cons ?_ (.cons ?_ (.cons ?_ (.cons ?_ (.cons ?_ (.cons ?_ (.cons ?_ (.cons ?_ (.cons ?_ (.cons ?_ (.cons ?_ (.cons ?_ (.cons ?_ (.cons ?_ (.cons ?_ (.cons ?_ (.cons ?_ (.cons ?_ (.cons ?_ (.cons ?_ (.cons ?_ (.cons ?_ (.cons ?_ (.cons ?_ (.cons ?_ (.cons ?_ (.cons ?_ (.cons ?_ (.cons ?_ (.cons ?_ (.cons ?_ .nil)))))))))))))))))))))))))))))))))))))
      any_goals k_is)
    (case nd => decide +kernel)
    (case out => decide +kernel)
    (case clA =>
      refine' .cons ?_ (.cons ?_ (.cons ?_ (.cons ?_ (.cons ?_ (.cons ?_ (.cons ?_ (.cons ?_ (.cons ?_ (.cons ?_ (.cons ?_ (.cons ?_ (.cons ?_ (.cons ?_ (.cons ?_ (.cons ?_ (.cons ?_ (.cons ?_ (.cons ?_ (.cons ?_ (.cons ?_ (.cons ?_ (.cons ?_ (.cons ?_ (.cons ?_ (.cons ?_ (.cons ?_ (.cons ?_ (.cons ?_ (.cons ?_ (.cons ?_ (.cons ?_ (.cons ?_ (.cons ?_ (.cons ?_ (.cons ?_ (.cons ?_ (.cons ?_ .nil)))))))))))))))))))))))))))))))))))))
      all_goals (refine' K0.clsF_mk ?e ?m ?d ?t ?a ?b ?c; (case e => k_is); (case m => rfl); (case d => rfl); (case t => k_is); (case a => k_is); (case b => k_is); (case c => k_is)))
    (case plP => refine' K0.playF_mk ?e ?m ?d ?t ?a ?b ?c; (case e => k_is); (case m => rfl); (case d => rfl); (case t => k_is); (case a => k_is); (case b => k_is); (case c => k_is))
    (case exA =>
      refine' .cons ?_ ?_ (.cons ?_ ?_ (.cons ?_ ?_ (.cons ?_ ?_ (.cons ?_ ?_ (.cons ?_ ?_ (.cons ?_ ?_ (.cons ?_ ?_ (.cons ?_ ?_ (.cons ?_ ?_ (.cons ?_ ?_ (.cons ?_ ?_ (.cons ?_ ?_ (.cons ?_ ?_ (.cons ?_ ?_ (.cons ?_ ?_ (.cons ?_ ?_ (.cons ?_ ?_ (.cons ?_ ?_ (.cons ?_ ?_ (.cons ?_ ?_ (.cons ?_ ?_ (.cons ?_ ?_ (.cons ?_ ?_ (.cons ?_ ?_ (.cons ?_ ?_ .nil)))))))))))))))))))))))))
      any_goals (first | k_exc | k_is))
    (case exP => k_exc)
    (case erA =>
      refine' .cons ?h0 (.cons ?h1 (.cons ?h2 (.cons ?h3 (.cons ?h4 (.cons ?h5 (.cons ?h6 (.cons ?h7 (.cons ?h8 (.cons ?h9 (.cons ?h10 (.cons ?h11 .nil)))))))))))
      (case h0 => refine' K0.errF_mk ?xL ?rf ?sa ?eC ?tC ?kC ?iC ?tI ?noN ?l ?cI ?lc ?ld ?v2 ?fl ?ln ?po; (case xL => k_is); (case rf => decide +kernel); (case sa => k_is); (case eC => k_is); (case tC => k_is); (case kC => k_is); (case iC => k_is); (case tI => k_is); (case noN => k_is); (case l => k_is); (case cI => k_is); (case lc => k_is); (case ld => k_is); (case v2 => rfl); (case fl => decide +kernel); (case ln => decide +kernel); (case po => exact Er.pn_part))
      (case h1 => refine' K0.errF_mk ?xL ?rf ?sa ?eC ?tC ?kC ?iC ?tI ?noN ?l ?cI ?lc ?ld ?v2 ?fl ?ln ?po; (case xL => k_is); (case rf => decide +kernel); (case sa => k_is); (case eC => k_is); (case tC => k_is); (case kC => k_is); (case iC => k_is); (case tI => k_is); (case noN => k_is); (case l => k_is); (case cI => k_is); (case lc => k_is); (case ld => k_is); (case v2 => rfl); (case fl => decide +kernel); (case ln => decide +kernel); (case po => exact Er.pn_at))
      (case h2 => refine' K0.errF_mk ?xL ?rf ?sa ?eC ?tC ?kC ?iC ?tI ?noN ?l ?cI ?lc ?ld ?v2 ?fl ?ln ?po; (case xL => k_is); (case rf => decide +kernel); (case sa => k_is); (case eC => k_is); (case tC => k_is); (case kC => k_is); (case iC => k_is); (case tI => k_is); (case noN => k_is); (case l => k_is); (case cI => k_is); (case lc => k_is); (case ld => k_is); (case v2 => rfl); (case fl => decide +kernel); (case ln => decide +kernel); (case po => exact Er.pn_part))
      (case h3 => refine' K0.errF_mk ?xL ?rf ?sa ?eC ?tC ?kC ?iC ?tI ?noN ?l ?cI ?lc ?ld ?v2 ?fl ?ln ?po; (case xL => k_is); (case rf => decide +kernel); (case sa => k_is); (case eC => k_is); (case tC => k_is); (case kC => k_is); (case iC => k_is); (case tI => k_is); (case noN => k_is); (case l => k_is); (case cI => k_is); (case lc => k_is); (case ld => k_is); (case v2 => rfl); (case fl => decide +kernel); (case ln => decide +kernel); (case po => exact Er.pn_most))
      (case h4 => refine' K0.errF_mk ?xL ?rf ?sa ?eC ?tC ?kC ?iC ?tI ?noN ?l ?cI ?lc ?ld ?v2 ?fl ?ln ?po; (case xL => k_is); (case rf => decide +kernel); (case sa => k_is); (case eC => k_is); (case tC => k_is); (case kC => k_is); (case iC => k_is); (case tI => k_is); (case noN => k_is); (case l => k_is); (case cI => k_is); (case lc => k_is); (case ld => k_is); (case v2 => rfl); (case fl => decide +kernel); (case ln => decide +kernel); (case po => exact Er.pn_part))
      (case h5 => refine' K0.errF_mk ?xL ?rf ?sa ?eC ?tC ?kC ?iC ?tI ?noN ?l ?cI ?lc ?ld ?v2 ?fl ?ln ?po; (case xL => k_is); (case rf => decide +kernel); (case sa => k_is); (case eC => k_is); (case tC => k_is); (case kC => k_is); (case iC => k_is); (case tI => k_is); (case noN => k_is); (case l => k_is); (case cI => k_is); (case lc => k_is); (case ld => k_is); (case v2 => rfl); (case fl => decide +kernel); (case ln => decide +kernel); (case po => exact Er.pn_why))
      (case h6 => refine' K0.errF_mk ?xL ?rf ?sa ?eC ?tC ?kC ?iC ?tI ?noN ?l ?cI ?lc ?ld ?v2 ?fl ?ln ?po; (case xL => k_is); (case rf => decide +kernel); (case sa => k_is); (case eC => k_is); (case tC => k_is); (case kC => k_is); (case iC => k_is); (case tI => k_is); (case noN => k_is); (case l => k_is); (case cI => k_is); (case lc => k_is); (case ld => k_is); (case v2 => rfl); (case fl => decide +kernel); (case ln => decide +kernel); (case po => exact Er.pn_number))
      (case h7 => refine' K0.errF_mk ?xL ?rf ?sa ?eC ?tC ?kC ?iC ?tI ?noN ?l ?cI ?lc ?ld ?v2 ?fl ?ln ?po; (case xL => k_is); (case rf => decide +kernel); (case sa => k_is); (case eC => k_is); (case tC => k_is); (case kC => k_is); (case iC => k_is); (case tI => k_is); (case noN => k_is); (case l => k_is); (case cI => k_is); (case lc => k_is); (case ld => k_is); (case v2 => rfl); (case fl => decide +kernel); (case ln => decide +kernel); (case po => exact Er.pn_part))
      (case h8 => refine' K0.errF_mk ?xL ?rf ?sa ?eC ?tC ?kC ?iC ?tI ?noN ?l ?cI ?lc ?ld ?v2 ?fl ?ln ?po; (case xL => k_is); (case rf => decide +kernel); (case sa => k_is); (case eC => k_is); (case tC => k_is); (case kC => k_is); (case iC => k_is); (case tI => k_is); (case noN => k_is); (case l => k_is); (case cI => k_is); (case lc => k_is); (case ld => k_is); (case v2 => rfl); (case fl => decide +kernel); (case ln => decide +kernel); (case po => exact Er.pn_part))
      (case h9 => refine' K0.errF_mk ?xL ?rf ?sa ?eC ?tC ?kC ?iC ?tI ?noN ?l ?cI ?lc ?ld ?v2 ?fl ?ln ?po; (case xL => k_is); (case rf => decide +kernel); (case sa => k_is); (case eC => k_is); (case tC => k_is); (case kC => k_is); (case iC => k_is); (case tI => k_is); (case noN => k_is); (case l => k_is); (case cI => k_is); (case lc => k_is); (case ld => k_is); (case v2 => rfl); (case fl => decide +kernel); (case ln => decide +kernel); (case po => exact Er.pn_at))
      (case h10 => refine' K0.errF_mk ?xL ?rf ?sa ?eC ?tC ?kC ?iC ?tI ?noN ?l ?cI ?lc ?ld ?v2 ?fl ?ln ?po; (case xL => k_is); (case rf => decide +kernel); (case sa => k_is); (case eC => k_is); (case tC => k_is); (case kC => k_is); (case iC => k_is); (case tI => k_is); (case noN => k_is); (case l => k_is); (case cI => k_is); (case lc => k_is); (case ld => k_is); (case v2 => rfl); (case fl => decide +kernel); (case ln => decide +kernel); (case po => exact Er.pn_at))
      (case h11 => refine' K0.errF_mk ?xL ?rf ?sa ?eC ?tC ?kC ?iC ?tI ?noN ?l ?cI ?lc ?ld ?v2 ?fl ?ln ?po; (case xL => k_is); (case rf => decide +kernel); (case sa => k_is); (case eC => k_is); (case tC => k_is); (case kC => k_is); (case iC => k_is); (case tI => k_is); (case noN => k_is); (case l => k_is); (case cI => k_is); (case lc => k_is); (case ld => k_is); (case v2 => rfl); (case fl => decide +kernel); (case ln => decide +kernel); (case po => exact Er.pn_part)))
    (case obn => k_is)
    (case obt => k_is)
    (case kcP => k_is)
    (case hi => k_is)
    (case any => k_is)
    (case top => decide +kernel)
    (case zS => k_is)
    (case zI => k_is)
    (case zR => k_is)
    (case zE => k_is)
    (case zP => k_is)
    (case zV => k_is)
    (case zA => k_is)
    (case zN => k_is)
    (case zL => k_is)
    (case aB => k_is)
    (case lB => k_is)
    (case cB => k_is)
    (case kB => k_is)
    (case aM => k_is)
    (case lM => k_is)
    (case cM => k_is)
    (case kM => k_is)
    (case aK => k_is)
    (case lK => k_is)
    (case cK => k_is)
    (case kK => k_is)
    (case aQ => k_is)
    (case lQ => k_is)
    (case cQ => k_is)
    (case kQ => k_is)
    (case aA => k_is)
    (case lA => k_is)
    (case cA => k_is)
    (case kA => k_is)
    (case aS => k_is)
    (case lS => k_is)
    (case cS => k_is)
    (case kS => k_is)
    (case aE => k_is)
    (case lE => k_is)
    (case cE => k_is)
    (case kE => k_is)
    (case aT => k_is)
    (case lT => k_is)
    (case cT => k_is)
    (case kT => k_is)
    (case aL => k_is)
    (case lL => k_is)
    (case cL => k_is)
    (case kL => k_is)
