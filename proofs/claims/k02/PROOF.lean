import PyProof.Rows.All
import Wide.All
import OpenK.AllK
import Wide.FinOn
import KE.KExcSuper
import HandS.ForMost
import HandS.Exc
import HandS.ExcOwn
import HandS.FStr
import HandS.WordsExc
import HandS.Ends
import HandS.TryOnly
import HandS.IsInst
import HandS.Zip
import HandS.Property
import HandS.NoneIn
import HandS.Codes
import HandS.TupAny
import HandS.CallSlots
import HandS.TryMany
import HandS.Iter
import HandS.Deep
import HandS.Text
import PyProof.FString
import HandS.Walk
import PyProof.FString2
import KE.KStateDown
import HandS.Head0
import HandS.Head1
import HandS.Head2
import HandS.Words
import KE.OsRunLaw
import PySem.Challenge.RW_readersapart_k02_no_readers
set_option Elab.async false
set_option linter.all false
set_option maxRecDepth 100000
set_option maxHeartbeats 8000000
/-! RaExc: the errors of the package that say super().__init__ of an f-string and keep one field. -/
namespace RaX
open PySem PySem.W PySem.Calls PyProof.Rows PySem.HandSPX
/-- the text of such an __init__: the field's name, the words ahead of it -/
def iA (fld : Str) (p1 p2 : Pos) : Arguments := { posonlyargs := [], args := [{ arg := "self", annotation := none, pos := p1 }, { arg := fld, annotation := none, pos := p2 }], vararg := none, kwonlyargs := [], kw_defaults := [], kwarg := none, defaults := [] }
structure Ps where
  a : Pos
  b : Pos
  c : Pos
  d : Pos
  e : Pos
  f : Pos
  g : Pos
  h : Pos
  i : Pos
  j : Pos
  k : Pos
  l : Pos
  m : Pos
def iB (fld said : Str) (p : Ps) : List Stmt :=
  [.Expr (.Call (.Attribute (.Call (.Name "super" p.a) [] [] p.b) "__init__" p.c) [.JoinedStr [.Constant (.str said) 0 p.d, .FormattedValue (.Name fld p.e) (-1) none p.f] p.g] [] p.h) p.i,
   .Assign [.Attribute (.Name "self" p.j) fld p.k] (.Name fld p.l) p.m]
def iS (fld : Str) : Scope := { kind := .function, names := [(PySem.Str.ofString "self", .local), (fld, .local), (PySem.Str.ofString "__class__", .free), (PySem.Str.ofString "super", .globalImplicit)], isGenerator := false, isCoroutine := false, more := [] }
/-- the field's name is none of the others -/
structure FldOk (fld : Str) : Prop where
  a : (("self" : Str) == fld) = false
  b : ((fld : Str) == ("self" : Str)) = false
  c : (("__class__" : Str) == fld) = false
  d : (("super" : Str) == fld) = false
  e : ((fld : Str) == ("__debug__" : Str)) = false
  bi : ∀ (qual : Str) (p1 p2 : Pos) (body : List Stmt) (scope : Scope) (doc pm : Value) (an : Option Addr) (cdv ct : Value) (cc : Addr) (a b : Value), bindArgs (ksFn "__init__" qual (iA fld p1 p2) body scope .none .none doc pm an cdv ct cc) ⟨[a, b], []⟩ = pure [(("self" : Str), a), (fld, b)]
/-- a value that stands well in an f-string -/
def FmtOk (v : Value) : Prop := ∀ (prog : Program) (w : World) (A : Around) (E : Value → Shared → Prop) (s : Shared) (Q : Value → Shared → Prop),
  (∀ (y : Str) (tk : Tok) (tk' : Nat), y.length ≤ 2000 → Q (.str y tk) { s with toks := tk' }) → wpAny (model prog w) A (formatField v Str.empty) Q E s
theorem fmt_str {y : Str} {t : Tok} (h : y.length ≤ 2000) : FmtOk (.str y t) := fun prog w A E s Q q =>
  wpAny_formatField_str (q y t s.toks h) (q y s.toks (s.toks + 1) h) (by rw [sizeLine_eq]; omega)
/-- what the written part says of the class at C and of its __init__ at fI; x, the class's name; fld, its field -/
structure BadTxt (P : Program) (K : Frag) (mg : Str → Option Value) (x fld : Str) (C fI : Addr) : Prop where
  gC : mg x = some (.ref C)
  cls : ∃ nm q N bs bm sn sub ab col dd k0 k1 k2 k3 k5, K.lookup C = some (excClassObj nm q C N bs bm true sn sub ab col dd k0 k1 k2 k3 k5 "ValueError.__new__") ∧ refsVE bm = true ∧ alongIn K "__init__" bm = some (some (.builtin "ValueError.__init__"))
  sa : findIn K (.ref C) "__setattr__" = some (some (.builtin "object.__setattr__"))
  ga : findIn K (.ref C) "__getattribute__" = some (some (.builtin "BaseException.__getattribute__"))
  gg : findIn K (.ref C) "__getattr__" = some none
  noN : findIn K (.ref C) fld = some none
  iC : findIn K (.ref C) "__init__" = some (some (.ref fI))
  tC : typeIn K (.ref fI) = some (.type "function")
  kC : keepIn K (.ref C) = true
  exC : subIn K (.ref C) (.type "BaseException") = some true
  vaC : subIn K (.ref C) (.type "ValueError") = some true
  tyC : typeIn K (.ref C) = some (.type "type")
  hdC : hasDictIn K C = true
  own : mroIn K C (.ref C) = some true
  ops : nsIn K cStatics "thirdparty.any" = some none
  sup : mg "super" = none
  fok : FldOk fld
  top : (P.main.scope.names.lookup ("super" : Str)).isSome = false
  fn : ∃ (qual said : Str) (oc : Value) (od : Option Addr) (doc pm : Value) (an : Option Addr) (cda cc : Addr) (ct : Value) (osl : Array (Option Value)) (p1 p2 : Pos) (p : Ps) (vs : Array Value) (file : Str) (tf : Tok) (ccl cl : Value) (cdd cld : Option Addr) (ccs csl : Array (Option Value)),
    K.lookup fI = some ⟨oc, od, .func (ksFn "__init__" qual (iA fld p1 p2) (iB fld said p) (iS fld) .none .none doc pm an (.ref cda) ct cc), osl⟩ ∧ codeIn K (.ref cda) qual = true ∧ said.length ≤ 1000 ∧ (p.c.endLine == p.h.line) = true ∧
    K.lookup cda = some ⟨ccl, cdd, .fields vs, ccs⟩ ∧ vs[2]? = some (.str file tf) ∧ ((P.main.file : Str) == file) = true ∧ K.lookup cc = some ⟨cl, cld, .cell (some (.ref C)), csl⟩
/-- what its __init__ leaves of a fresh exception at x -/
structure InitEnd (h h' : Heap) (x C dx t1 : Addr) (fld : Str) (v : Value) : Prop where
  keep : ∀ b o, b ≠ x → h.get? b = some o → h'.get? b = some o
  obj : h'.get? x = some { cls := .ref C, dict := some dx, data := .fields #[.ref t1, .none, .none, .none, .bool false, .none] }
  dbig : h.objs.size ≤ dx
  dne : dx ≠ x
  ns : h'.Ns1 dx (fun y => if y = fld then some v else none)
theorem one_le : 1 ≤ sizeLine := by rw [sizeLine_eq]; decide
theorem lk1 {fld : Str} (F : FldOk fld) : (iS fld).names.lookup ("self" : Str) = some .local := rfl
theorem lk2 {fld : Str} (F : FldOk fld) : (iS fld).names.lookup fld = some .local := by
  have h := F.b
  show List.lookup fld [(("self" : Str), NameKind.local), (fld, NameKind.local), (("__class__" : Str), NameKind.free), (("super" : Str), NameKind.globalImplicit)] = _
  simp [List.lookup, h]
theorem lk3 {fld : Str} (F : FldOk fld) : (iS fld).names.lookup ("__class__" : Str) = some .free := by
  have h := F.c
  have h2 : (("__class__" : Str) == ("self" : Str)) = false := by decide +kernel
  show List.lookup ("__class__" : Str) [(("self" : Str), NameKind.local), (fld, NameKind.local), (("__class__" : Str), NameKind.free), (("super" : Str), NameKind.globalImplicit)] = _
  simp [List.lookup, h, h2]
theorem lk4 {fld : Str} (F : FldOk fld) : (iS fld).names.lookup ("super" : Str) = some .globalImplicit := by
  have h := F.d
  have h2 : (("super" : Str) == ("self" : Str)) = false := by decide +kernel
  have h3 : (("super" : Str) == ("__class__" : Str)) = false := by decide +kernel
  show List.lookup ("super" : Str) [(("self" : Str), NameKind.local), (fld, NameKind.local), (("__class__" : Str), NameKind.free), (("super" : Str), NameKind.globalImplicit)] = _
  simp [List.lookup, h, h2, h3]
theorem bnd1 {fld : Str} (F : FldOk fld) {x : Addr} {v : Value} : List.lookup ("self" : Str) [(("self" : Str), Value.ref x), (fld, v)].reverse = some (.ref x) := by
  have h := F.a
  show List.lookup ("self" : Str) [(fld, v), (("self" : Str), Value.ref x)] = _
  simp [List.lookup, h]
theorem bnd2 {fld : Str} {x : Addr} {v : Value} : List.lookup fld [(("self" : Str), Value.ref x), (fld, v)].reverse = some v := by
  show List.lookup fld [(fld, v), (("self" : Str), Value.ref x)] = _
  simp [List.lookup]
theorem ldN {M : Model} {s : Shared} {env : Env} {A : Around} {E : Value → Shared → Prop} {m : Str → Option Value} {x : Str} {pos : Pos} {v : Value} {Q : Value → Shared → Prop} (hn : s.heap.Ns env.locals m) (hv : m x = some v) (h : Q v s)
    (hk : env.scope.kind = .function) (hl : env.kindOf x = some .local) (hd : (x == ("__debug__" : Str)) = false) : wpAny M A (eval (.Name x pos) env) Q E s := wpAny_Name (wpAny_loadName_local hk hl hn hv h) hd
section
variable {prog : Program} {w : World} {A : Around} {E : Value → Shared → Prop} {R : Result → Shared → Prop} {K : Frag} {mg : Str → Option Value} {C fI : Addr} {nmC fld : Str}
/-- the built-in __init__ bound to the exception, called -/
theorem mw_call {hh : Heap} {g : Array GenState} {d : Drawn} {tk : Nat} {os : OsState} {u e t0 : Addr} {rest : List Value} {Q : Value → Shared → Prop}
    {nm q : Str} {N : Addr} {bs bm : List Value} {sn : List Str} {sub : List Value} {ab : Bool} {col : Option Bool} {dd : Option Addr} {k0 k1 k2 k3 k5 : Option Value}
    (hC : hh.get? C = some (excClassObj nm q C N bs bm true sn sub ab col dd k0 k1 k2 k3 k5 "ValueError.__new__")) (he : hh.get? e = some (excO C t0)) (hu : hh.get? u = some (kxs_mw "ValueError.__init__" e)) (hz : rest.length ≤ sizeLine)
    (hq : ∀ h' t1, (∀ b o, b ≠ e → hh.get? b = some o → h'.get? b = some o) → h'.get? e = some (excO C t1) → Q .none ⟨h', g, d, tk, os⟩) :
    wpAny (model prog w) A (call (.ref u) rest) Q E ⟨hh, g, d, tk, os⟩ := by
  refine wpAny_call (codeAny_of_tree ?_)
  show wpAny _ A.in1 (callAny (.ref u) ⟨rest, []⟩) _ _ _
  simp only [callAny]
  refine wpAny_bind (wpAny_load hu ?_)
  simp only [kxs_mw, show (Value.type "method-wrapper" == Value.type "method" || Value.type "method-wrapper" == Value.type "builtin_function_or_method" || Value.type "method-wrapper" == Value.type "method-wrapper") = true by decide, if_true]
  refine KFB.if_so (by decide) ?_
  refine wpAny_bind (check_bound_init F.excBase_ValueError.toExcCallFacts hC he rfl ?_)
  refine wpAny_bind (wpAny_pure (wpAny_pure ?_))
  refine ⟨plainId_quiet F.excBase_ValueError.init.plain _, codeAny_builtin F.excBase_ValueError.initEntry ?_⟩
  refine exc_init_tree (cls := .ref C) (t0 := t0) (dv := none) (c2 := .none) (c3 := .none) (b4 := .bool false) he hz fun h' k hx _ => ?_
  exact hq h' _ k hx
theorem mw_callWith {M : Model} {pos : Pos} {u x : Addr} {s : Shared} {env : Env} {e : Expr} {Q : Value → Shared → Prop}
    (h : wpAny M A (spliced (backTo pos (starEach (e :: []) env))) (fun vs s₁ => KxsAt "ValueError.__init__" u x s₁.heap ∧ wpAny M A (call (.ref u) vs) Q E s₁) E s)
    (he : starEach (e :: []) env = (false, eval e env) :: starEach [] env := by rfl) (hplain : (backTo pos (starEach [] env)).any (·.1) = false := by rfl) :
    wpAny M A (callWith pos (.ref u) [] (backTo pos (starEach (e :: []) env)) []) Q E s := by
  rw [he] at h ⊢
  refine kxs_callWith (i := "ValueError.__init__") (x := x) (by show (false || (backTo pos (starEach [] env)).any (·.1)) = false; rw [hplain]; rfl) ?_
  exact evalArgs_plain h
theorem super_call_eq {p0 p1 apos pos : Pos} {name : Str} {e : Expr} {env : Env} (h : (apos.endLine == pos.line) = true) (hf : methodCallForm 1 (backTo pos (starEach [e] env)) [] = true) :
    eval (.Call (.Attribute (.Call (.Name "super" p0) [] [] p1) name apos) [e] [] pos) env = (do
      let ov ← attributeBase (.Call (.Name "super" p0) [] [] p1) name env (eval (.Call (.Name "super" p0) [] [] p1) env)
      standAt apos.atName
      let (f, first) ← holding [ov] (getMethod ov name (do return (← importBound (.Call (.Name "super" p0) [] [] p1) env).getD true))
      callWith pos f first (backTo pos (starEach [e] env)) []) := by
  have e1 : ∀ few, methodCallPos few (.Call (.Name "super" p0) [] [] p1) env apos pos = pure pos := fun few => by
    unfold methodCallPos
    rw [h, Bool.or_true]
    rfl
  rw [arm_eval_Call]
  unfold methodCall
  show (do
      let ov ← attributeBase (.Call (.Name "super" p0) [] [] p1) name env (eval (.Call (.Name "super" p0) [] [] p1) env)
      standAt apos.atName
      let (f, first) ← holding [ov] (calleeOf (methodCallForm 1 (backTo pos (starEach [e] env)) []) (.Call (.Name "super" p0) [] [] p1) env ov name)
      let callPos ← methodCallPos (methodCallForm 1 (backTo pos (starEach [e] env)) []) (.Call (.Name "super" p0) [] [] p1) env apos pos
      callWith callPos f first (backTo pos (starEach [e] env)) []) = _
  rw [hf]
  simp only [e1]
  rfl
theorem bad_init (T : BadTxt prog K mg nmC fld C fI) {s : Shared} {x t0 : Addr} {v : Value} (hv : FmtOk v) (X : K.In s.heap) (hg : s.heap.Ns mainGlobals mg) (hb : ∃ mb, s.heap.Ns builtinsNs mb ∧ ∀ y : Str, y ≠ "__name__" → mb y = bootBuiltins y)
    (hlim : s.heap.NoLimit) (hx : s.heap.get? x = some (excO C t0)) (hnx : K.lookup x = none) (hroom : A.depth < recursionLimit)
    (hq : ∀ h' tk dx t1, InitEnd s.heap h' x C dx t1 fld v → R (.ok (.ret .none)) { s with heap := h', toks := tk }) :
    codeAny (model prog w) A (.call (.ref fI) ⟨[.ref x, v], []⟩) R s := by
  obtain ⟨qual, said, oc, od, doc, pm, an, cda, cc, ct, osl, p1, p2, p, vs, file, tf, ccl, cl, cdd, cld, ccs, csl, ho, hcd, hsaid, hps, hcda, hvs, hfile, hcc⟩ := T.fn
  obtain ⟨nm, q, N, bs, bm, sn, sub, ab, col, dd, k0, k1, k2, k3, k5, hC, hbm, hal⟩ := T.cls
  have hcl : clsIn K C = some { name := nm, bases := bs, mro := .ref C :: bm, ns := N, qualname := q, hasDict := true, slotNames := sn, subclasses := sub, abstract := ab, collection := col, hasDel := false } := by unfold clsIn; rw [hC] <;> rfl
  obtain ⟨mb, hb1, hb2⟩ := hb
  refine ks_codeAny_call_defAt (fd := ksFn "__init__" qual (iA fld p1 p2) (iB fld said p) (iS fld) .none .none doc pm an (.ref cda) ct cc) (body := iB fld said p) (binds := [("self", .ref x), (fld, v)]) hroom (X _ _ ho) rfl hlim (codeRec_of X hcd) rfl
    (BindsTo.of_eq ?hbind) ?hcell ?hloc (fun h₁ hns hk => ?_) rfl rfl rfl
  case hbind => exact T.fok.bi _ _ _ _ _ _ _ _ _ _ _ _ _
  case hcell =>
    intro y hy
    have hy' : y = (("self" : Str), NameKind.local) ∨ y = (fld, NameKind.local) ∨ y = (("__class__" : Str), NameKind.free) ∨ y = (("super" : Str), NameKind.globalImplicit) := by
      have z : y ∈ [(("self" : Str), NameKind.local), (fld, NameKind.local), (("__class__" : Str), NameKind.free), (("super" : Str), NameKind.globalImplicit)] := hy
      simpa using z
    rcases hy' with rfl | rfl | rfl | rfl <;> exact fun z => nomatch z
  case hloc =>
    intro y hy
    have hy' : y = (("self" : Str), Value.ref x) ∨ y = (fld, v) := by simpa using hy
    rcases hy' with rfl | rfl
    · exact lk1 T.fok
    · exact lk2 T.fok
  have X1 : K.In h₁ := X.keeps hk
  have hx1 := hk _ _ hx
  have xC : x ≠ C := fun z => by rw [z, hC] at hnx; cases hnx
  have hCo := X1 _ _ hC
  have I1 : InstAt h₁ x (excO C t0) C none := ⟨hx1, rfl, rfl, trivial⟩
  obtain ⟨hh, g, d, t, os⟩ := s
  -- super().__init__(f'..')
  refine ks_wpAt_execs_cons (ks_wpAt_Expr_any (ks_wpAt_MethodCall ?_ (super_call_eq hps rfl)))
  refine ks_wpAt_super_base (env := ksEnv qual (iS fld) hh.objs.size fI (.ref cda) cc) (lk4 T.fok) (lk3 T.fok) (by decide) rfl (X1 _ _ ho) rfl rfl rfl (X1 _ _ hcda) rfl hvs hfile T.top ?_
  refine ks_loadName_global rfl (lk4 T.fok) (loadGlobal_builtin (env := ksEnv qual (iS fld) hh.objs.size fI (.ref cda) cc) (hg.keeps hk) T.sup (hb1.keeps hk) ((hb2 _ (by decide +kernel)).trans (by first | boot_by_name | rfl | kernel_rfl)) ⟨rfl, ?_⟩)
  refine wpAny_loadName_free rfl (lk3 T.fok) rfl ⟨_, X1 _ _ hcc, rfl⟩ ?_
  refine wpAny_loadName_local rfl (lk1 T.fok) hns (bnd1 T.fok) ?_
  refine ks_wpAny_isType_cls hCo rfl ⟨rfl, ?_⟩
  refine ks_wpAny_call_super hCo rfl hx1 rfl (fun c e => by cases e) (looks_mroIn X1 T.own) (fun h2 e2 k2 => ?_)
  have X2 : K.In h2 := X1.keeps k2
  have hx2 := k2 _ _ hx1
  have I2 : InstAt h2 x (excO C t0) C none := ⟨hx2, rfl, rfl, trivial⟩
  have hI : Looks (model prog w) h2 (isInstance (.ref x) (.type "ValueError")) true := I2.type.andThen (looks_subIn X2 T.vaC)
  refine kxs_getMethod kxs_ValueError e2 (looks_opaque X2 T.ops) (l₀ := .ref C :: bm) (l := bm) ?_ ?_ X2 hal hI xC (by decide) ?_
  · exact fun A Q E s k q => wpAny_bind ((looks_clsIn X2 hcl) A _ E s k (wpAny_pure q))
  · simp [List.dropWhile_cons]
  have e3 : (h2.push (kxs_mw "ValueError.__init__" x)).get? h2.objs.size = some (kxs_mw "ValueError.__init__" x) := Heap.get?_push_at rfl rfl
  have k3 : ∀ b o, h2.get? b = some o → (h2.push (kxs_mw "ValueError.__init__" x)).get? b = some o := fun b o e => Heap.get?_push_of_some _ e
  have k23 : ∀ b o, h₁.get? b = some o → (h2.push (kxs_mw "ValueError.__init__" x)).get? b = some o := fun b o e => k3 b o (k2 b o e)
  have hns3 := hns.keeps k23
  show wpAny _ _ (callWith p.h (.ref h2.objs.size) [] (backTo p.h (starEach [.JoinedStr [.Constant (.str said) 0 p.d, .FormattedValue (.Name fld p.e) (-1) none p.f] p.g] (ksEnv qual (iS fld) hh.objs.size fI (.ref cda) cc))) []) _ _ _
  refine mw_callWith (x := x) ?_
  show wpAny _ _ (spliced ((false, eval (.JoinedStr [.Constant (.str said) 0 p.d, .FormattedValue (.Name fld p.e) (-1) none p.f] p.g) (ksEnv qual (iS fld) hh.objs.size fI (.ref cda) cc)) :: backTo p.h (starEach [] (ksEnv qual (iS fld) hh.objs.size fI (.ref cda) cc)))) _ _ _
  have l1 : (Str.empty ++ said).length ≤ 1000 := by
    rw [Str.length_append]
    have z : Str.empty.length = 0 := rfl
    omega
  refine spliced_cons (wpAny_JoinedStr ?_)
  refine Constant_str ⟨said, _, rfl, by rw [sizeLine_eq]; omega, ?_⟩
  refine wpAny_FormattedValue_plain (ldN hns3 bnd2 ?_ rfl (lk2 T.fok) T.fok.e)
  refine hv _ _ _ _ _ _ fun y tk tk' hy => ⟨y, tk, rfl, ?_, ?_, ?_⟩
  · rw [Str.length_append, sizeLine_eq]
    omega
  · rw [Str.length_append, sizeLine_eq]
    omega
  refine spliced_nil ⟨e3, ?_⟩
  have X3 : K.In (h2.push (kxs_mw "ValueError.__init__" x)) := X2.keeps k3
  refine mw_call (X3 _ _ hC) (k3 _ _ hx2) e3 one_le fun h4 t4 k4 hx4 => ?_
  -- self.fld = fld
  have nL : hh.objs.size ≠ x := Nat.ne_of_gt (Heap.lt_size hx)
  have kx4 : ∀ b o, b ≠ x → h₁.get? b = some o → h4.get? b = some o := fun b o hb e => k4 b o hb (k23 b o e)
  have hns4 : h4.Ns hh.objs.size fun y => List.lookup y [(("self" : Str), Value.ref x), (fld, v)].reverse := by
    obtain ⟨oL, es, ep, hL, r⟩ := hns
    exact ⟨oL, es, ep, kx4 _ _ nL hL, r⟩
  have X4 : K.In h4 := fun a o e => kx4 a o (fun z => by rw [z, hnx] at e; cases e) (X1 a o e)
  refine ks_wpAt_execs_cons (wpAt_of_wpAny (plainObj_wpAny_Assign_Attribute ?_))
  refine ldN hns4 bnd2 (ldN hns4 (bnd1 T.fok) ?_ rfl (lk1 T.fok) (by decide)) rfl (lk2 T.fok) T.fok.e
  refine set_plain X4 (ox := excO C t4) (od := none) ⟨hx4, rfl, rfl, trivial⟩ T.sa ?_
  refine exc_osa X4 hx4 hcl (show refsVE (.ref C :: bm) = true from hbm) rfl T.noN (fun h5 tk5 dx k5 dn dne hx5 hn5 => ?_)
  show PySem.wpAt _ _ _ (execs [] _) _ _ _
  refine wpAt_of_wpAny (wpAny_execs_nil (hq h5 tk5 dx t4 ⟨fun b o hb e => k5 b o hb (kx4 b o hb (hk b o e)), hx5, ?_, dne, hn5⟩))
  have z1 : hh.objs.size < h4.objs.size := hns4.lt
  exact Nat.le_of_lt (Nat.lt_of_lt_of_le z1 dn)
/-- such an error, made -/
structure OwnMade (h h' : Heap) (e C d : Addr) (fld : Str) (v : Value) : Prop where
  keep : ∀ b o, h.get? b = some o → h'.get? b = some o
  new : h.objs.size ≤ e
  obj : ∃ oe vs, h'.get? e = some oe ∧ oe.cls = .ref C ∧ oe.dict = some d ∧ oe.data = .fields vs ∧ vs[1]? = some .none
  dbig : h.objs.size ≤ d
  dne : d ≠ e
  ns : h'.Ns1 d (fun y => if y = fld then some v else none)
theorem bad_made (T : BadTxt prog K mg nmC fld C fI) {s : Shared} {v : Value} (hv : FmtOk v) (X : K.In s.heap) (hg : s.heap.Ns mainGlobals mg) (hb : ∃ mb, s.heap.Ns builtinsNs mb ∧ ∀ y : Str, y ≠ "__name__" → mb y = bootBuiltins y)
    (hlim : s.heap.NoLimit) (hroom : A.depth + 1 < recursionLimit) (hq : ∀ h' tk e d, OwnMade s.heap h' e C d fld v → R (.ok (.ret (.ref e))) { s with heap := h', toks := tk }) :
    codeAny (model prog w) A (.call (.ref C) ⟨[v], []⟩) R s := by
  obtain ⟨nm, q, N, bs, bm, sn, sub, ab, col, dd, k0, k1, k2, k3, k5, hC, hbm, hal⟩ := T.cls
  obtain ⟨hp, g, dr, tk, os⟩ := s
  have k : ∀ b o, hp.get? b = some o → ((hp.push (kdv_tup [v])).push (excO C hp.objs.size)).get? b = some o := fun b o e => Heap.get?_push_of_some _ (Heap.get?_push_of_some _ e)
  have hget : ((hp.push (kdv_tup [v])).push (excO C hp.objs.size)).get? (hp.objs.size + 1) = some (excO C hp.objs.size) := by heap_get
  have hnx : K.lookup (hp.objs.size + 1) = none := by
    cases e : K.lookup (hp.objs.size + 1) with
    | none => rfl
    | some o =>
      have z : hp.get? (hp.objs.size + 1) = some o := X _ _ e
      exact absurd (Nat.lt_of_succ_lt (Heap.lt_size z)) (Nat.lt_irrefl _)
  obtain ⟨mb, hb1, hb2⟩ := hb
  refine call_own F.excBase_ValueError (fun X => refsVE_contains X bm hbm) (X _ _ hC) (looks_findIn X T.iC) (fun self => bind_fn X self T.tC) one_le ?_
  refine bad_init (s := ⟨(hp.push (kdv_tup [v])).push (excO C hp.objs.size), g, dr, tk, os⟩) T hv (X.keeps k) (hg.keeps k) ⟨mb, hb1.keeps k, hb2⟩ (hlim.keeps k) hget hnx ?_ fun h' tk' dx t1 I => ?_
  · show A.depth + 1 < recursionLimit
    exact hroom
  · have old : ∀ b o, hp.get? b = some o → h'.get? b = some o := fun b o e => I.keep b o (Nat.ne_of_lt (Nat.lt_succ_of_lt (Heap.lt_size e))) (k b o e)
    have z : hp.objs.size + 1 + 1 ≤ dx := by
      have q := I.dbig
      first
        | exact q
        | (rw [Heap.size_push, Heap.size_push] at q; exact q)
        | (simpa only [Heap.size_push] using q)
    exact ⟨rfl, hq h' tk' (hp.objs.size + 1) dx ⟨old, Nat.le_succ _, ⟨_, _, I.obj, rfl, rfl, rfl, rfl⟩, Nat.le_trans (Nat.le_trans (Nat.le_succ _) (Nat.le_succ _)) z, I.dne, I.ns⟩⟩
end
end RaX
namespace RaX
open PySem PySem.Spec PyProof.Rows L2
theorem relO_one {fld : Str} {v : V} {v' : Value} (r : RelV v v') (f : Str) : RelO (List.lookup f [(fld, v)]) (if f = fld then some v' else none) := by
  by_cases hw : f = fld
  · subst hw
    rw [if_pos rfl]
    have q : List.lookup f [(f, v)] = some v := by simp [List.lookup]
    rw [q]
    exact r
  · rw [if_neg hw]
    have qw : (f == fld) = false := by simpa using hw
    have q2 : List.lookup f [(fld, v)] = none := by simp [List.lookup, qw]
    rw [q2]
    trivial
/-- a value that may stand in such an error -/
def VOk (v : V) : Prop := ∀ u, RelV v u → FmtOk u
theorem vok_str {y : Str} (h : y.length ≤ 2000) : VOk (.str y) := fun u r => by
  obtain ⟨t, rfl⟩ := r
  exact fmt_str h
section
variable {X : Cx} {C fI : Addr} {nmC fld : Str}
/-- Bad(e) -/
def tMkBad (C : Addr) (fld : Str) (ta : TA) : L2.St → Hp → XK → Prop := fun σ H Q => ta σ H fun vs H1 => ∃ v, vs = [v] ∧ VOk v ∧ ∀ d, H1 d = none → Q (.ref C) (some d) (upd H1 d (.xd [(fld, v)]))
theorem pmk_bad {a : Expr} {ta : TA} {p pos : Pos} {k : Nat} (T : BadTxt X.prog X.K X.mg nmC fld C fI) (hr : Room k X.A) (ha : PA X [a] ta) (hg : Gl X nmC)
    (hdb : (nmC == ("__debug__" : Str)) = false := by decide) (he : starEach (a :: []) X.env = (false, eval a X.env) :: starEach [] X.env := by rfl) (hpl : (backTo pos (starEach [] X.env)).any (·.1) = false := by rfl) :
    PMk X (.Call (.Name nmC p) [a] [] pos) (tMkBad C fld ta) := by
  intro pins s σ H Q I h
  refine wpAny_Call_Name_kw (ld_glob I hg T.gC ?_ hdb)
  refine PySem.W.callWith_K (h₀ := X.base) I.ok.mod.kin T.kC (thn (ha.run pos pins s σ H _ I h) fun us s1 hh => ?_) he hpl
  obtain ⟨vs, H1, I1, r1, v, ev, hvk, q1⟩ := hh
  subst ev
  refine ⟨I1.kIn, ?_⟩
  cases r1 with
  | cons rv rn =>
    rename_i v' us'
    cases rn
    show wpAny _ _ (call (.ref C) [v']) _ _ _
    have hlim := I1.nolimit
    have hG := I1.mod.glob.keeps I1.bk
    have hB : ∃ mb, s1.heap.Ns builtinsNs mb ∧ ∀ y : Str, y ≠ "__name__" → mb y = bootBuiltins y := by
      obtain ⟨mb, b1, b2⟩ := I1.mod.blt
      exact ⟨mb, b1.keeps I1.bk, b2⟩
    obtain ⟨hp, g, dr, tk, os⟩ := s1
    refine wpAny_call (bad_made T (hvk _ rv) I1.kIn hG hB hlim (by have := hr.dp; omega) fun h' tk' e d M => ?_)
    show MkP X pins σ Q (.ref e) ⟨h', g, dr, tk', os⟩
    obtain ⟨oe, fv, hoe, hc, hd, hdat, h1⟩ := M.obj
    have hns := M.ns
    obtain ⟨G', g1, g2⟩ := restrict h' fun b => decide (b ≠ e)
    have gk : ∀ b, b ≠ e → G'.get? b = h'.get? b := fun b hb => g1 b (decide_eq_true hb)
    have ge : G'.get? e = none := g2 e (by simp)
    have old : ∀ b o, hp.get? b = some o → G'.get? b = some o := fun b o q => (gk b (Nat.ne_of_lt (Nat.lt_of_lt_of_le (Heap.lt_size q) M.new))).trans (M.keep b o q)
    have ob : ObjOk X.prog X.w (upd H1 d (.xd [(fld, v)])) G' d (.xd [(fld, v)]) :=
      ⟨_, hns.at (fun o q => (gk d M.dne).trans q), fun f => relO_one rv f⟩
    have J : Inv X pins σ (upd H1 d (.xd [(fld, v)])) ⟨G', g, dr, tk', os⟩ := I1.laid (t' := tk') old M.dbig ob
    refine ⟨e, oe, fv, ⟨G', g, dr, tk', os⟩, _, .ref C, some d, rfl, J, fun b o q => ?_, ge, hoe, ⟨hc, hd⟩, hdat, h1, ?_, rfl, I1.bare, raises_own T.exC T.tyC, q1 d (I1.hok.fresh M.dbig)⟩
    · by_cases hb : b = e
      · have q' : G'.get? b = some o := q
        rw [hb, ge] at q'; cases q'
      · exact (gk b hb).symm.trans q
    · rw [upd_ne (Ne.symm M.dne)]
      exact I1.hok.fresh M.new
/-- raise Bad(e) -/
def tRaiseBad (C : Addr) (fld : Str) (W : WX) (ta : TA) : TS := fun _ σ H => tMkBad C fld ta σ H fun cls d H' => W cls d σ H'
theorem ps_raiseBad {a : Expr} {ta : TA} {W : WX} {p pos pos2 : Pos} {k : Nat} (hc : X.calm = true) (T : BadTxt X.prog X.K X.mg nmC fld C fI) (hr : Room k X.A) (tk : Takes X W) (ha : PA X [a] ta) (hg : Gl X nmC)
    (hdb : (nmC == ("__debug__" : Str)) = false := by decide) (he : starEach (a :: []) X.env = (false, eval a X.env) :: starEach [] X.env := by rfl) (hpl : (backTo pos (starEach [] X.env)).any (·.1) = false := by rfl) :
    PS X (.Raise (some (.Call (.Name nmC p) [a] [] pos)) none pos2) (tRaiseBad C fld W ta) := ps_raise hc tk (pmk_bad T hr ha hg hdb he hpl)
/-- e.fld, e the exception that the suite holds (at a; its class cls, its dict d) -/
def tByBad (C : Addr) (fld : Str) (a : Addr) (cls : Value) (d : Option Addr) (te : TE) : TE := fun σ H Q => te σ H fun x H1 => x = .ref a ∧ cls = .ref C ∧ ∃ (dd : Addr) (v : V), d = some dd ∧ H1 dd = some (.xd [(fld, v)]) ∧ Q v H1
theorem pe_byBad {a : Addr} {oe : Obj} {cls : Value} {d : Option Addr} {pn : List (Addr × Obj)} {e : Expr} {te : TE} {pos : Pos} (T : BadTxt X.prog X.K X.mg nmC fld C fI) (hz : Zc cls d oe) (hf : ∃ vs, oe.data = .fields vs) (he : PE (X.suite a ((a, oe) :: pn)) e te)
    (hb : attributeBase e fld X.env (eval e X.env) = eval e X.env := by rfl) :
    PE (X.suite a ((a, oe) :: pn)) (.Attribute e fld pos) (tByBad C fld a cls d te) := by
  refine ⟨fun pins s σ H Q I h => ?_⟩
  refine attr_of hb (thn (he.run pins s σ H _ I h) fun u s1 hh => ?_)
  obtain ⟨x, H1, I1, rx, ex, ec, dd, v, ed, ea, q⟩ := hh
  subst ex
  obtain rfl : u = Value.ref a := rx
  subst ec
  subst ed
  obtain ⟨ha, _⟩ := I1.pin (a, oe) (List.mem_append_left _ List.mem_cons_self)
  obtain ⟨vs, hd⟩ := hf
  have hx : ObjOk X.prog X.w H1 s1.heap dd (.xd [(fld, v)]) := I1.hok dd _ ea
  obtain ⟨mA, hns, hr⟩ := hx
  obtain ⟨od, ho, hl⟩ := lookIn_ns hns
  have l : List.lookup fld [(fld, v)] = some v := by simp [List.lookup]
  obtain ⟨u, hu, ru⟩ := RelO.some_of (v := v) (o := mA fld) (by rw [← l]; exact hr fld)
  have J : PySem.W.InstAt s1.heap a oe C (some od) := ⟨ha, hz.1, by unfold PySem.W.notCls; rw [hd] <;> rfl, by rw [hz.2]; exact ho⟩
  exact HandSPX.exc_get I1.kIn J T.ga T.gg T.exC (PySem.W.findObj_own T.hdC T.noN rfl (by rw [hl, hu])) (handed_of ru) ⟨v, H1, I1.tok _, ru, q⟩
end
end RaX

/-! RaLib: what the laws over readersapart share: the row of draws, the parts of a reader, small rules. -/
namespace Ra
open PySem PySem.Spec PyProof.Rows L2 RaX
/-! ### heaps but for one address -/
def But (a : Addr) (H H' : Hp) : Prop := ∀ b o, b ≠ a → H b = some o → H' b = some o
theorem But.refl {a : Addr} {H : Hp} : But a H H := fun _ _ _ h => h
theorem But.trans {a : Addr} {H H1 H2 : Hp} (x : But a H H1) (y : But a H1 H2) : But a H H2 := fun b o h e => y b o h (x b o h e)
theorem But.upd {a : Addr} {H : Hp} {o : HO} : But a H (L2.upd H a o) := fun b u h e => by rw [upd_ne h]; exact e
theorem But.new {a p : Addr} {H : Hp} {o : HO} (n : H p = none) : But a H (L2.upd H p o) := fun b u h e => by rw [upd_ne (ne_of_none e n)]; exact e
theorem But.same {a : Addr} {H H' : Hp} (s : Same H H') : But a H H' := fun b o _ e => s b o e
theorem Same.new {p : Addr} {H : Hp} {o : HO} (n : H p = none) : Same H (L2.upd H p o) := fun b u e => by rw [upd_ne (ne_of_none e n)]; exact e
/-- a list of our own is changed beside -/
theorem But.other {a l : Addr} {H : Hp} {o : HO} (n : H l = none) {H' : Hp} (x : But a H H') : But a H (L2.upd H' l o) := fun b u h e => by
  rw [upd_ne (ne_of_none e n)]
  exact x b u h e
theorem Same.seqT {K : PySem.W.Frag} {H H' : Hp} {a : Addr} {xs : List V} (e : Same H H') (h : SqT K H a xs) : SqT K H' a xs := by
  rcases h with (h | ⟨o, h⟩) | h
  · exact .inl (.inl (e _ _ h))
  · exact .inl (.inr ⟨o, e _ _ h⟩)
  · exact .inr h
theorem SqL_upd {K : PySem.W.Frag} {H : Hp} {a b : Addr} {xs : List V} {o : HO} (h : SqL K H b xs) (n : b ≠ a) : SqL K (L2.upd H a o) b xs := by
  rcases h with (h | ⟨u, h⟩) | h
  · exact .inl (.inl (by rw [upd_ne n]; exact h))
  · exact .inl (.inr ⟨u, by rw [upd_ne n]; exact h⟩)
  · exact .inr h
/-! ### the row of draws -/
def rowV (sc : Addr) (i z r : Int) : List V := [.ref sc, .int i, .int z, .int r]
/-- the script as it is to be read: locked, or written -/
def ScL (K : PySem.W.Frag) (H : Hp) (a : Addr) (xs : List V) : Prop := (∃ o, H a = some (.frz o (.lst xs))) ∨
  ∃ (o : Obj) (its : Array Value) (n : Nat), K.lookup a = some o ∧ o.cls = .type "list" ∧ o.dict = none ∧ o.data = .seq its n ∧ its.size ≤ sizeLine ∧ Vals xs its.toList
theorem ScL.sq {K : PySem.W.Frag} {H : Hp} {a : Addr} {xs : List V} (h : ScL K H a xs) : SqL K H a xs := h.elim (fun ⟨o, h⟩ => .inl (.inr ⟨o, h⟩)) fun h => .inr h
theorem ScL.of {K : PySem.W.Frag} {H : Hp} {a : Addr} {xs : List V} (O : L2.Only H) (h : SqL K H a xs) : ScL K H a xs := by
  rcases h with (h | h) | h
  · rcases O a with e | ⟨o, ys, e⟩
    · rw [h] at e
      cases e
    · rw [h] at e
      cases e
  · exact .inl h
  · exact .inr h
theorem ScL.same {K : PySem.W.Frag} {H H' : Hp} {a : Addr} {xs : List V} (h : ScL K H a xs) (s : Same H H') : ScL K H' a xs := h.elim (fun ⟨o, h⟩ => .inl ⟨o, s _ _ h⟩) fun h => .inr h
/-- what is no locked thing may be changed -/
def Loose (H : Hp) (l : Addr) : Prop := ∀ o u, H l ≠ some (.frz o u)
theorem Loose.lst {H : Hp} {l : Addr} {xs : List V} (h : H l = some (.lst xs)) : Loose H l := fun o u z => by
  rw [h] at z
  cases z
theorem ScL.upd {K : PySem.W.Frag} {H : Hp} {a l : Addr} {xs : List V} {o : HO} (h : ScL K H a xs) (n : Loose H l) : ScL K (L2.upd H l o) a xs := by
  rcases h with ⟨u, h⟩ | h
  · refine .inl ⟨u, ?_⟩
    rw [upd_ne fun z => n _ _ (by rw [← z]; exact h)]
    exact h
  · exact .inr h
structure RowAt (K : PySem.W.Frag) (H : Hp) (a sc : Addr) (ns : List Int) (i z r : Int) : Prop where
  row : H a = some (.lst (rowV sc i z r))
  scl : ScL K H sc (ns.map V.int)
  nn : 0 ≤ i
theorem RowAt.scr {K : PySem.W.Frag} {H : Hp} {a sc : Addr} {ns : List Int} {i z r : Int} (R : RowAt K H a sc ns i z r) : SqL K H sc (ns.map V.int) := R.scl.sq
def RowOk (K : PySem.W.Frag) (H : Hp) (a : Addr) : Prop := ∃ sc ns i z r, RowAt K H a sc ns i z r
theorem RowAt.upd {K : PySem.W.Frag} {H : Hp} {a sc : Addr} {ns : List Int} {i z r i' z' r' : Int} (R : RowAt K H a sc ns i z r) (h : 0 ≤ i') : RowAt K (L2.upd H a (.lst (rowV sc i' z' r'))) a sc ns i' z' r' :=
  ⟨upd_same, R.scl.upd (Loose.lst R.row), h⟩
theorem RowOk.some {K : PySem.W.Frag} {H : Hp} {a : Addr} (R : RowOk K H a) : ∃ xs, H a = Option.some (.lst xs) := by
  obtain ⟨sc, ns, i, z, r, R⟩ := R
  exact ⟨_, R.row⟩
theorem SqL_new {K : PySem.W.Frag} {H : Hp} {p b : Addr} {xs : List V} {o : HO} (h : SqL K H b xs) (n : H p = none) : SqL K (L2.upd H p o) b xs := (Same.new n).seq h
theorem RowOk.same {K : PySem.W.Frag} {H H' : Hp} {a : Addr} (R : RowOk K H a) (s : Same H H') : RowOk K H' a := by
  obtain ⟨sc, ns, i, z, r, R⟩ := R
  exact ⟨sc, ns, i, z, r, s a _ R.row, R.scl.same s, R.nn⟩
theorem RowOk.new {K : PySem.W.Frag} {H : Hp} {a p : Addr} {o : HO} (R : RowOk K H a) (n : H p = none) : RowOk K (L2.upd H p o) a := R.same (Same.new n)
/-- another thing is changed -/
theorem RowOk.beside {K : PySem.W.Frag} {H : Hp} {a l : Addr} {o : HO} (R : RowOk K H a) (n : Loose H l) (ne : l ≠ a) : RowOk K (L2.upd H l o) a := by
  obtain ⟨sc, ns, i, z, r, R⟩ := R
  exact ⟨sc, ns, i, z, r, by rw [upd_ne (Ne.symm ne)]; exact R.row, R.scl.upd n, R.nn⟩
theorem RowOk.free {K : PySem.W.Frag} {H H' : Hp} {a p : Addr} (R : RowOk K H' a) (b : But a H H') (n : H' p = none) : H p = none := by
  obtain ⟨xs, e⟩ := R.some
  have hp : p ≠ a := fun z => by rw [z, e] at n; cases n
  cases q : H p with
  | none => rfl
  | some o =>
    have := b p o hp q
    rw [n] at this
    cases this
theorem RowOk.ne {K : PySem.W.Frag} {H : Hp} {a p : Addr} (R : RowOk K H a) (n : H p = none) : p ≠ a := fun z => by
  obtain ⟨xs, e⟩ := R.some
  rw [z, e] at n
  cases n
theorem RowOk.tup {K : PySem.W.Frag} {H : Hp} {a p : Addr} {xs : List V} (R : RowOk K H a) (h : H p = Option.some (.tup xs)) : p ≠ a := fun z => by
  obtain ⟨ys, e⟩ := R.some
  rw [z, e] at h
  cases h
theorem RowOk.frz {K : PySem.W.Frag} {H : Hp} {a p : Addr} {o : Obj} {u : HO} (R : RowOk K H a) (h : H p = Option.some (.frz o u)) : p ≠ a := fun z => by
  obtain ⟨ys, e⟩ := R.some
  rw [z, e] at h
  cases h
theorem RowOk.ins {K : PySem.W.Frag} {H : Hp} {a p C dx : Addr} {fs : List (Str × V)} (R : RowOk K H a) (h : H p = Option.some (.ins C dx fs)) : p ≠ a := fun z => by
  obtain ⟨ys, e⟩ := R.some
  rw [z, e] at h
  cases h
/-! ### picks -/
theorem pick {xs : List V} {v : Int} (h0 : 0 ≤ v) (h1 : v < xs.length) : ∃ x, atI xs v = some x ∧ x ∈ xs := by
  obtain ⟨j, rfl⟩ : ∃ j : Nat, v = (j : Int) := ⟨v.toNat, by omega⟩
  have hj : j < xs.length := by omega
  exact ⟨xs[j], atI_nat (List.getElem?_eq_getElem hj), List.getElem_mem hj⟩
theorem atI_in {xs : List V} {v : Int} (h0 : 0 ≤ v) (h1 : v < xs.length) : atI xs v = some (xs.getD v.toNat .non) := by
  obtain ⟨j, rfl⟩ : ∃ j : Nat, v = (j : Int) := ⟨v.toNat, by omega⟩
  have hj : j < xs.length := by omega
  have e : xs[j]? = some (xs.getD (j : Int).toNat .non) := by
    rw [List.getElem?_eq_getElem hj]
    simp [hj]
  exact atI_nat e
theorem ixN_at {n j : Nat} (hj : j < n) : ixN n (j : Int) = some j := by
  have h1 : (0 : Int) ≤ (j : Int) := Int.natCast_nonneg j
  have h2 : (j : Int) < (n : Int) := by omega
  simp [ixN, hj]
/-! ### small rules -/
section
variable {X : Cx}
theorem PGor {tg : Expr} {g1 g2 : TG} (h1 : PG X tg g1) (h2 : PG X tg g2) : PG X tg (fun v σ H Q => g1 v σ H Q ∨ g2 v σ H Q) :=
  ⟨fun pins s σ H v u Q I r h => h.elim (fun h => h1.run pins s σ H v u Q I r h) fun h => h2.run pins s σ H v u Q I r h⟩
end
/-! ### the parts of a reader -/
structure P8 where
  pt : Str
  cm : Str
  rs : Int
  mu : Bool
  sg : Str
  ze : Bool
  bl : Bool
  ex : Bool
  deriving DecidableEq
def P8.vs (p : P8) : List V := [.str p.pt, .str p.cm, .int p.rs, .bl p.mu, .str p.sg, .bl p.ze, .bl p.bl, .bl p.ex]
def ptL : List V := [.str ".", .str ",", .str ""]
def cmL : List V := [.str ".", .str ",", .str "'", .str " ", .str ""]
def rsL : List V := [.int 3, .int 2]
def sgL : List V := [.str "none", .str "ahead", .str "behind"]
def boL : List V := [.bl false, .bl true]
theorem str_of {xs : List V} (h : ∀ x ∈ xs, ∃ s, x = V.str s) {x : V} (m : x ∈ xs) : ∃ s, x = V.str s ∧ V.str s ∈ xs := by
  obtain ⟨s, e⟩ := h x m
  exact ⟨s, e, by rw [← e]; exact m⟩
theorem ptL_str {x : V} (m : x ∈ ptL) : ∃ s, x = V.str s ∧ V.str s ∈ ptL := str_of (by simp [ptL]) m
theorem cmL_str {x : V} (m : x ∈ cmL) : ∃ s, x = V.str s ∧ V.str s ∈ cmL := str_of (by simp [cmL]) m
theorem sgL_str {x : V} (m : x ∈ sgL) : ∃ s, x = V.str s ∧ V.str s ∈ sgL := str_of (by simp [sgL]) m
structure P8.Dom (p : P8) : Prop where
  pt : V.str p.pt ∈ ptL
  cm : V.str p.cm ∈ cmL
  rs : V.int p.rs ∈ rsL
  sg : V.str p.sg ∈ sgL
structure P8.Ok (p : P8) : Prop extends P8.Dom p where
  ne : p.cm = "" ∨ p.cm ≠ p.pt
  nb : ¬ (p.bl = true ∧ p.cm = " ")
/-! ### which part is wrong -/
def isB : V → Bool
  | .bl _ => true
  | _ => false
def among (v : V) (cs : List V) : Bool := cs.any fun c => (isB v == isB c) && decide (v = c)
def chL : List (Str × List V) := [("point", ptL), ("comma", cmL), ("rest", rsL), ("must", boL), ("sign", sgL), ("zeros", boL), ("blanks", boL), ("exponent", boL)]
def nameAt (i : Nat) : Str := (chL.getD i ("", [])).1
def chAt (i : Nat) : List V := (chL.getD i ("", [])).2
def at_ (ws : List V) (i : Nat) : V := ws.getD i .non
def clash (ws : List V) (nm : Str) : Bool := if nm = "comma" then !decide (at_ ws 1 = .str "") && decide (at_ ws 1 = at_ ws 0) else decide (nm = "blanks") && (decide (at_ ws 6 = .bl true) && decide (at_ ws 1 = .str " "))
def wrongAt (ws : List V) (i : Nat) : Bool := !among (at_ ws i) (chAt i) || clash ws (nameAt i)
def firstWrong (ws : List V) : Option Str := ((List.range 8).find? (wrongAt ws)).map nameAt
/-- the choices of a part are truth values -/
def boAt (i : Nat) : Bool := i == 3 || i == 5 || i == 6 || i == 7
/-- a value that may be asked; bo: beside truth values -/
inductive ValOk (H : Hp) (bo : Bool) : V → Prop where
  | non : ValOk H bo .non
  | bl (b : Bool) : ValOk H bo (.bl b)
  | int (i : Int) : ValOk H bo (.int i)
  | str (s : Str) : ValOk H bo (.str s)
  | tup {t : Addr} {xs : List Str} (h : H t = some (.tup (xs.map V.str))) (ok : ∀ x ∈ xs, PyData.strOk x = true) : ValOk H bo (.ref t)
  | dct {d : Addr} (h : H d = some (.dK [])) (hb : bo = true) : ValOk H bo (.ref d)
theorem ValOk.same {H H' : Hp} {bo : Bool} {v : V} (h : ValOk H bo v) (s : Same H H') : ValOk H' bo v := by
  cases h with
  | non => exact .non
  | bl b => exact .bl b
  | int i => exact .int i
  | str x => exact .str x
  | tup h ok => exact .tup (s _ _ h) ok
  | dct h hb => exact .dct (s _ _ h) hb
/-- the choices that go with bo -/
def Chs (bo : Bool) (cs : List V) : Prop := (bo = true ∧ ∀ c ∈ cs, ∃ b, c = .bl b) ∨ (bo = false ∧ ∀ c ∈ cs, (∃ s, c = .str s ∧ PyData.strOk s = true) ∨ ∃ i, c = .int i)
theorem chs_at (i : Nat) (h : i < 8) : Chs (boAt i) (chAt i) := by
  have : i = 0 ∨ i = 1 ∨ i = 2 ∨ i = 3 ∨ i = 4 ∨ i = 5 ∨ i = 6 ∨ i = 7 := by omega
  rcases this with rfl | rfl | rfl | rfl | rfl | rfl | rfl | rfl
  · exact .inr ⟨rfl, by simp [chAt, chL, ptL] <;> decide +kernel⟩
  · exact .inr ⟨rfl, by simp [chAt, chL, cmL] <;> decide +kernel⟩
  · exact .inr ⟨rfl, by simp [chAt, chL, rsL] <;> decide +kernel⟩
  · exact .inl ⟨rfl, by simp [chAt, chL, boL]⟩
  · exact .inr ⟨rfl, by simp [chAt, chL, sgL] <;> decide +kernel⟩
  · exact .inl ⟨rfl, by simp [chAt, chL, boL]⟩
  · exact .inl ⟨rfl, by simp [chAt, chL, boL]⟩
  · exact .inl ⟨rfl, by simp [chAt, chL, boL]⟩
/-- isinstance(v, bool) -/
theorem isi_bool {K : PySem.W.Frag} {H : Hp} {bo : Bool} {v : V} (h : ValOk H bo v) : ∃ t, TyX K H v t ∧ PySem.W.kitOne K t (.type "bool") = some (isB v) := by
  cases h with
  | non => exact ⟨_, .base .non, kit_ty (r := false) (by decide +kernel)⟩
  | bl b => exact ⟨_, .base (.bl b), kit_ty (r := true) (by decide +kernel)⟩
  | int i => exact ⟨_, .base (.int i), kit_ty (r := false) (by decide +kernel)⟩
  | str x => exact ⟨_, .base (.str x), kit_ty (r := false) (by decide +kernel)⟩
  | tup h _ => exact ⟨_, .base (.tup h), kit_ty (r := false) (by decide +kernel)⟩
  | dct h _ => exact ⟨_, .base (.dK h), kit_ty (r := false) (by decide +kernel)⟩
theorem dpAll_str {K : PySem.W.Frag} {H : Hp} : ∀ xs : List Str, DpAll K H (xs.map V.str) (xs.map PyData.str)
  | [] => .nil
  | x :: xs => .cons (.str x) (dpAll_str xs)
theorem lay_strs : ∀ xs : List Str, (∀ x ∈ xs, PyData.strOk x = true) → PyData.canLayAll0 (xs.map PyData.str) = true
  | [], _ => by simp [PyData.canLayAll0]
  | x :: xs, h => by
    show PyData.canLayAll0 (PyData.str x :: xs.map PyData.str) = true
    simp only [PyData.canLayAll0, PyData.canLay0]
    rw [h x List.mem_cons_self, lay_strs xs fun y hy => h y (List.mem_cons_of_mem _ hy)]
    rfl
theorem dep_strs : ∀ xs : List Str, PyData.depthAll (xs.map PyData.str) = 0
  | [] => by simp [PyData.depthAll]
  | x :: xs => by
    show PyData.depthAll (PyData.str x :: xs.map PyData.str) = 0
    simp only [PyData.depthAll, PyData.depth]
    rw [dep_strs xs]
    rfl
theorem shaped_strs (xs : List Str) (h : ∀ x ∈ xs, PyData.strOk x = true) : SeqAt.shaped (.tuple (xs.map PyData.str)) = true := by
  refine Bool.and_eq_true_iff.mpr ⟨?_, decide_eq_true ?_⟩
  · simp only [PyData.canLay0]
    exact lay_strs xs h
  · simp only [PyData.depth]
    rw [dep_strs xs]
    omega
theorem shaped_str {x : Str} (h : PyData.strOk x = true) : SeqAt.shaped (.str x) = true := by
  refine Bool.and_eq_true_iff.mpr ⟨?_, decide_eq_true ?_⟩
  · simp only [PyData.canLay0]
    exact h
  · simp only [PyData.depth]
    omega
theorem shaped_int (i : Int) : SeqAt.shaped (.int i) = true := by
  refine Bool.and_eq_true_iff.mpr ⟨?_, decide_eq_true ?_⟩
  · simp only [PyData.canLay0]
  · simp only [PyData.depth]
    omega
/-- v == c, c one of the choices, where both or none are truth values -/
theorem eq_one {K : PySem.W.Frag} {H : Hp} {bo : Bool} {v c : V} {cs : List V} {Q : VK} (h : ValOk H bo v) (hc : Chs bo cs) (m : c ∈ cs) (e : isB v = isB c) (q : Q (.bl (decide (v = c))) H) : rEq v c H Q ∨ rEqD K v c H Q := by
  rcases hc with ⟨hb, hc⟩ | ⟨hb, hc⟩
  · obtain ⟨b, rfl⟩ := hc c m
    cases h with
    | bl b' => exact .inl ⟨rfl, q⟩
    | _ => exact Bool.noConfusion e
  · have nb : isB c = false := by
      rcases hc c m with ⟨x, rfl, _⟩ | ⟨i, rfl⟩ <;> rfl
    rw [nb] at e
    cases h with
    | bl b' => exact Bool.noConfusion e
    | non => exact .inl ⟨by rcases hc c m with ⟨x, rfl, _⟩ | ⟨i, rfl⟩ <;> rfl, q⟩
    | int i => exact .inl ⟨by rcases hc c m with ⟨x, rfl, _⟩ | ⟨i, rfl⟩ <;> rfl, q⟩
    | str x => exact .inl ⟨by rcases hc c m with ⟨x, rfl, _⟩ | ⟨i, rfl⟩ <;> rfl, q⟩
    | dct _ hb' => exact absurd (hb.symm.trans hb') (by decide)
    | @tup t xs h ok =>
      refine .inr ?_
      rcases hc c m with ⟨x, rfl, hx⟩ | ⟨i, rfl⟩
      · refine ⟨_, _, .tup (SqT.of h) (dpAll_str xs), .str x, shaped_strs xs ok, shaped_str hx, ?_⟩
        have z : decide (V.ref t = V.str x) = false := decide_eq_false fun z => nomatch z
        rw [z] at q
        exact q
      · refine ⟨_, _, .tup (SqT.of h) (dpAll_str xs), .int i, shaped_strs xs ok, shaped_int i, ?_⟩
        have z : decide (V.ref t = V.int i) = false := decide_eq_false fun z => nomatch z
        rw [z] at q
        exact q
/-! ### the built-in names -/
theorem bt_isinstance : bootBuiltins "isinstance" = some (.builtin "isinstance") := by decide +kernel
theorem bt_any : bootBuiltins "any" = some (.builtin "any") := by decide +kernel
theorem bt_all : bootBuiltins "all" = some (.builtin "all") := by decide +kernel
theorem bt_len : bootBuiltins "len" = some (.builtin "len") := by decide +kernel
theorem bt_int : bootBuiltins "int" = some (.type "int") := by decide +kernel
theorem bt_bool : bootBuiltins "bool" = some (.type "bool") := by decide +kernel
theorem bt_str : bootBuiltins "str" = some (.type "str") := by decide +kernel
theorem bt_list : bootBuiltins "list" = some (.type "list") := by decide +kernel
theorem bt_tuple : bootBuiltins "tuple" = some (.type "tuple") := by decide +kernel
theorem bt_sum : bootBuiltins "sum" = some (.builtin "sum") := by decide +kernel
theorem bt_min : bootBuiltins "min" = some (.builtin "min") := by decide +kernel
theorem bt_max : bootBuiltins "max" = some (.builtin "max") := by decide +kernel
theorem bt_abs : bootBuiltins "abs" = some (.builtin "abs") := by decide +kernel
theorem bt_range : bootBuiltins "range" = some (.type "range") := by decide +kernel
theorem bt_zip : bootBuiltins "zip" = some (.type "zip") := by decide +kernel
theorem bt_enumerate : bootBuiltins "enumerate" = some (.type "enumerate") := by decide +kernel
theorem bt_sorted : bootBuiltins "sorted" = some (.builtin "sorted") := by decide +kernel
theorem bt_set : bootBuiltins "set" = some (.type "set") := by decide +kernel
theorem bt_dict : bootBuiltins "dict" = some (.type "dict") := by decide +kernel
theorem bt_reversed : bootBuiltins "reversed" = some (.type "reversed") := by decide +kernel
theorem isi_flat {K : PySem.W.Frag} {H : Hp} {bo : Bool} {c : V} {cs : List V} (hc : Chs bo cs) (m : c ∈ cs) : ∃ t, TyX K H c t ∧ PySem.W.kitOne K t (.type "bool") = some (isB c) := by
  have h : ValOk H bo c := by
    rcases hc with ⟨_, hc⟩ | ⟨_, hc⟩
    · obtain ⟨b, rfl⟩ := hc c m
      exact .bl b
    · rcases hc c m with ⟨x, rfl, _⟩ | ⟨i, rfl⟩
      · exact .str x
      · exact .int i
  exact isi_bool h
theorem take_more {α : Type} : ∀ {l : List α} {i : Nat} {x : α}, l[i]? = some x → l.take (i + 1) = l.take i ++ [x]
  | [], i, x, h => by simp at h
  | a :: l, 0, x, h => by
    have e : a = x := Option.some.inj h
    subst e
    rfl
  | a :: l, i + 1, x, h => by
    show a :: l.take (i + 1) = a :: l.take i ++ [x]
    rw [take_more (l := l) (i := i) (x := x) h]
    rfl
/-! ### rules that name the written part, for a comprehension's block -/
section
variable {X : Cx} {K : PySem.W.Frag}
theorem isiK (h : X.K = K := by rfl) : CallR X (.builtin "isinstance") (rIsi K) := by
  rw [← h]
  exact call_isi
theorem eqDK (hu : X.A.units + 64 < cLine) (h : X.K = K := by rfl) : OpR X (compareOp .Eq) (rEqD K) := by
  rw [← h]
  exact op_eqD hu
theorem neDK (hu : X.A.units + 64 < cLine) (h : X.K = K := by rfl) : OpR X (compareOp .NotEq) (rNeD K) := by
  rw [← h]
  exact op_neD hu
theorem ixLK (h : X.K = K := by rfl) : IxR X (rIxL K) := by
  rw [← h]
  exact ix_list
theorem ixTK (h : X.K = K := by rfl) : IxR X (rIxT K) := by
  rw [← h]
  exact ix_tup
end
/-! ### written tuples; a loop over zip of two tuples -/
def WT (K : PySem.W.Frag) (a : Addr) (xs : List V) : Prop := ∃ (o : Obj) (its : Array Value) (n : Nat), K.lookup a = some o ∧ o.cls = .type "tuple" ∧ o.data = .seq its n ∧ its.size ≤ sizeLine ∧ Vals xs its.toList
theorem WT.sq {K : PySem.W.Frag} {H : Hp} {a : Addr} {xs : List V} (h : WT K a xs) : SqT K H a xs := .inr h
theorem wt_mk {K : PySem.W.Frag} {a : Addr} {xs : List V} {its : List Value} {n : Nat} {d : Option Addr} {sl : Array (Option Value)} (h : K.lookup a = some ⟨.type "tuple", d, .seq its.toArray n, sl⟩) (hl : its.length ≤ 1000) (r : Vals xs its) : WT K a xs :=
  ⟨_, _, n, h, rfl, rfl, by rw [List.size_toArray, sizeLine_eq]; omega, by simpa using r⟩
theorem for_zipT {K : PySem.W.Frag} {a b : Addr} {xs ys : List V} {g : TG} {tb : TS} {D : Ends} {σ : L2.St} {H : Hp} (hl : xs.length = ys.length) (Pv : Nat → L2.St → Hp → Prop) (h0 : Pv 0 σ H) (hq : ∀ i σ H, Pv i σ H → SqT K H a xs ∧ SqT K H b ys)
    (hs : ∀ (i : Nat) (x y : V) (T : Addr) (σ : L2.St) (H : Hp), xs[i]? = some x → ys[i]? = some y → Pv i σ H → H T = none → g (.ref T) σ (upd H T (.tup [x, y])) fun σ2 H2 => tb { D with nx := Pv (i + 1), ct := Pv (i + 1), bk := D.nx } σ2 H2)
    (hd : ∀ σ H, Pv xs.length σ H → D.nx σ H) :
    ∃ W : Nat → Nat → L2.St → Hp → Prop, (∃ m, W 0 m σ H) ∧ ∀ i m σ H, W i m σ H →
      ((RZ.ItzT K a b).stop i H ∧ D.nx σ H) ∨ ((RZ.ItzT K a b).go i H ∧ ∃ N : L2.St → Hp → Prop, (∀ σ' H', N σ' H' → ∃ m', m' < m ∧ W (i + 1) m' σ' H') ∧
        ∀ v H', (RZ.ItzT K a b).yld i H v H' → g v σ H' fun σ2 H2 => tb { D with nx := N, ct := N, bk := D.nx } σ2 H2) := by
  refine ⟨fun i m σ H => m = xs.length - i ∧ i ≤ xs.length ∧ Pv i σ H, ⟨_, rfl, Nat.zero_le _, h0⟩, fun i m σ H w => ?_⟩
  obtain ⟨em, hi, p⟩ := w
  obtain ⟨qx, qy⟩ := hq i σ H p
  rcases Nat.lt_or_ge i xs.length with hlt | hge
  · have hlt2 : i < ys.length := by omega
    have hx : xs[i]? = some xs[i] := List.getElem?_eq_getElem hlt
    have hy : ys[i]? = some ys[i] := List.getElem?_eq_getElem hlt2
    refine .inr ⟨⟨xs, ys, _, _, qx, qy, hx, hy⟩, fun σ' H' => Pv (i + 1) σ' H', fun σ' H' z => ⟨xs.length - (i + 1), by omega, rfl, hlt, z⟩, fun v H' z => ?_⟩
    obtain ⟨T, x, y, rfl, hT, rfl, zx, zy⟩ := z
    exact hs i x y T σ H (zx _ qx) (zy _ qy) p hT
  · have e : i = xs.length := by omega
    subst e
    exact .inl ⟨⟨xs, ys, qx, qy, .inl (Nat.le_refl _)⟩, hd σ H p⟩
/-- the written choices -/
def ChK (K : PySem.W.Frag) (c0 : Addr) : Prop := ∃ q r : Nat → Addr, WT K c0 ((List.range 8).map fun i => V.ref (q i)) ∧ ∀ i, i < 8 → WT K (q i) [.str (nameAt i), .ref (r i)] ∧ WT K (r i) (chAt i)
theorem at_get {ws : List V} {i : Nat} (h : i < ws.length) : ws[i]? = some (at_ ws i) := by
  unfold at_
  rw [List.getElem?_eq_getElem h]
  simp [h]
theorem at_of {ws : List V} {i : Nat} {x : V} (h : ws[i]? = some x) : x = at_ ws i := by
  obtain ⟨hl, _⟩ := List.getElem?_eq_some_iff.mp h
  rw [at_get hl] at h
  exact (Option.some.inj h).symm
theorem atI_at {ws : List V} {i : Nat} (h : i < ws.length) : atI ws (i : Int) = some (at_ ws i) := atI_nat (at_get h)
/-- the first of the places that are wrong -/
theorem first_none {ws : List V} (h : ∀ j, j < 8 → wrongAt ws j = false) : firstWrong ws = none := by
  unfold firstWrong
  have e : (List.range 8).find? (wrongAt ws) = none := List.find?_eq_none.mpr fun j hj => by
    rw [h j (List.mem_range.mp hj)]
    decide
  rw [e]
  rfl
theorem find_range {p : Nat → Bool} {n i : Nat} (h : ∀ j, j < i → p j = false) (hi : p i = true) (hn : i < n) : (List.range n).find? p = some i := by
  rw [List.find?_range_eq_some]
  exact ⟨hi, List.mem_range.mpr hn, fun j hj => by rw [h j hj]; rfl⟩
theorem first_some {ws : List V} {i : Nat} (h : ∀ j, j < i → wrongAt ws j = false) (hi : wrongAt ws i = true) (hn : i < 8) : firstWrong ws = some (nameAt i) := by
  unfold firstWrong
  rw [find_range h hi hn]
  rfl
theorem eight {ws : List V} (h : ws.length = 8) : ∃ a b c d e f g i, ws = [a, b, c, d, e, f, g, i] := by
  match ws, h with
  | [a, b, c, d, e, f, g, i], _ => exact ⟨a, b, c, d, e, f, g, i, rfl⟩
theorem first_name {ws : List V} {nm : Str} (h : firstWrong ws = some nm) : ∃ i, i < 8 ∧ nm = nameAt i ∧ wrongAt ws i = true := by
  unfold firstWrong at h
  cases e : (List.range 8).find? (wrongAt ws) with
  | none => rw [e] at h; cases h
  | some i =>
    rw [e] at h
    exact ⟨i, List.mem_range.mp (List.mem_of_find?_eq_some e), (Option.some.inj h).symm, List.find?_some e⟩
theorem first_vok {ws : List V} {nm : Str} (h : firstWrong ws = some nm) : VOk (.str nm) := by
  obtain ⟨i, hi, rfl, _⟩ := first_name h
  refine vok_str ?_
  have : i = 0 ∨ i = 1 ∨ i = 2 ∨ i = 3 ∨ i = 4 ∨ i = 5 ∨ i = 6 ∨ i = 7 := by omega
  rcases this with rfl | rfl | rfl | rfl | rfl | rfl | rfl | rfl <;> exact (by decide +kernel)
/-- a tuple, tracked or known by its object -/
theorem Rd.same {H H' : Hp} {t : Addr} {u : HO} (h : Rd H t u) (s : Same H H') : Rd H' t u := h.elim (fun z => .inl (s _ _ z)) fun ⟨o, z⟩ => .inr ⟨o, s _ _ z⟩
theorem Rd.but {K : PySem.W.Frag} {a t : Addr} {H H' : Hp} {xs : List V} (h : Rd H t (.tup xs)) (R : RowOk K H a) (s : But a H H') : Rd H' t (.tup xs) := h.elim (fun z => .inl (s _ _ (R.tup z) z)) fun ⟨o, z⟩ => .inr ⟨o, s _ _ (R.frz z) z⟩
theorem SqT.rd {K : PySem.W.Frag} {H : Hp} {t : Addr} {xs : List V} (h : Rd H t (.tup xs)) : SqT K H t xs := .inl h
/-- a Reader stands at x, its parts are ws -/
def RdAt (C : Addr) (H : Hp) (x : Addr) (ws : List V) : Prop := ∃ dx t, H x = some (.ins C dx [(("_parts" : Str), .ref t)]) ∧ Rd H t (.tup ws)
theorem RdAt.same {C : Addr} {H H' : Hp} {x : Addr} {ws : List V} (h : RdAt C H x ws) (s : Same H H') : RdAt C H' x ws := by
  obtain ⟨dx, t, h1, h2⟩ := h
  exact ⟨dx, t, s _ _ h1, Rd.same h2 s⟩
theorem RdAt.but {K : PySem.W.Frag} {C a : Addr} {H H' : Hp} {x : Addr} {ws : List V} (h : RdAt C H x ws) (R : RowOk K H a) (s : But a H H') : RdAt C H' x ws := by
  obtain ⟨dx, t, h1, h2⟩ := h
  exact ⟨dx, t, s _ _ (R.ins h1) h1, Rd.but h2 R s⟩
/-! ### == by an own __eq__, whatever it says -/
section
variable {X : Cx} {CX : CXT} {C f : Addr} {fd : FuncData} {sp : Sp} {n : Nat} {E : XK}
def rEqO (K : PySem.W.Frag) (C : Addr) (sp : Sp) (E : XK) : R2 := fun x y H Q => ∃ a dx fs t, x = .ref a ∧ H a = some (.ins C dx fs) ∧ TyX K H y t ∧ PySem.W.notFirst K C t = true ∧ sp [.ref a, y] H (fun v H' => ∃ b, v = .bl b ∧ Q (.bl b) H') E
theorem op_eqO (F : FnOk X.prog X.w X.K X.mg X.base CX n f fd ["self", "other"] sp) (hs : PySem.W.findIn X.K (.ref C) "__eq__" = some (some (.ref f))) (hf : PySem.W.isFn X.K (.ref f) = true) (hb : Binds X.K fd ["self", "other"] []) (hx : Passes CX X E) (hr : Room n X.A) :
    OpR X (compareOp .Eq) (rEqO X.K C sp E) := by
  intro pins s σ H x y v u Q I rx ry hq
  obtain ⟨a, dx, fs, t, rfl, ha, hty, hnf, hsp⟩ := hq
  obtain rfl : v = Value.ref a := rx
  obtain ⟨mA, J, _⟩ := ins_get I.hok ha
  obtain ⟨od, J, _⟩ := J.look
  obtain ⟨P, Z, hP, _⟩ := kit_of I ry hty
  obtain ⟨m, hF⟩ := I.fr
  show wpAny (model X.prog X.w) X.A (richCompare .Eq (.ref a) u) (EP X pins σ Q) X.xe s
  refine PySem.W.cmp_K (op := .Eq) (tb := t) hr.units0 hF I.ok.mod.kin J (Z.ty _ _ I.kIn hP) hnf hs hf ?_
  refine wpAny_call (codeAny_mono (F.run X.A X.stack s H ⟨[.ref a, u], []⟩ [.ref a, u] [.ref a, y] _ E hr I.env0 (by
    have z := hb s [.ref a, u] I.kIn rfl
    simpa using z) (.cons rfl (.cons ry .nil)) hsp) fun r s' hq => ?_)
  cases r with
  | error e => exact hx pins σ H s e s' I hq
  | ok fl =>
    cases fl with
    | ret w' =>
      obtain ⟨z, H', I', rz, b, ez, q⟩ := I.after hq
      subst ez
      obtain rfl : w' = Value.bool b := rz
      exact ⟨.bl b, H', I', rfl, q⟩
    | next => exact False.elim hq
    | brk => exact False.elim hq
    | cont => exact False.elim hq
end
/-! ### the parts as data -/
def P8.dat (p : P8) : List PyData := [.str p.pt, .str p.cm, .int p.rs, .bool p.mu, .str p.sg, .bool p.ze, .bool p.bl, .bool p.ex]
theorem P8.dp {K : PySem.W.Frag} {H : Hp} (p : P8) : DpAll K H p.vs p.dat :=
  .cons (.str _) (.cons (.str _) (.cons (.int _) (.cons (.bl _) (.cons (.str _) (.cons (.bl _) (.cons (.bl _) (.cons (.bl _) .nil)))))))
theorem P8.eqv (p q : P8) : PyData.eqv (.tuple p.dat) (.tuple q.dat) = decide (p = q) := by
  obtain ⟨a, b, c, d, e, f, g, i⟩ := p
  obtain ⟨a', b', c', d', e', f', g', i'⟩ := q
  show PyData.eqv (.tuple [.str a, .str b, .int c, .bool d, .str e, .bool f, .bool g, .bool i]) (.tuple [.str a', .str b', .int c', .bool d', .str e', .bool f', .bool g', .bool i']) = _
  simp only [PyData.eqv, PyData.eqvAll, Bool.and_true]
  rw [Bool.eq_iff_iff]
  simp [P8.mk.injEq]
theorem mem_strOk {x : Str} {xs : List V} (h : ∀ s, V.str s ∈ xs → PyData.strOk s = true) (m : V.str x ∈ xs) : PyData.strOk x = true := h x m
theorem ok_pt {x : Str} (m : V.str x ∈ ptL) : PyData.strOk x = true := by
  have h : x = "." ∨ x = "," ∨ x = "" := by simpa [ptL] using m
  rcases h with rfl | rfl | rfl <;> decide +kernel
theorem ok_cm {x : Str} (m : V.str x ∈ cmL) : PyData.strOk x = true := by
  have h : x = "." ∨ x = "," ∨ x = "'" ∨ x = " " ∨ x = "" := by simpa [cmL] using m
  rcases h with rfl | rfl | rfl | rfl | rfl <;> decide +kernel
theorem ok_sg {x : Str} (m : V.str x ∈ sgL) : PyData.strOk x = true := by
  have h : x = "none" ∨ x = "ahead" ∨ x = "behind" := by simpa [sgL] using m
  rcases h with rfl | rfl | rfl <;> decide +kernel
theorem P8.shaped (p : P8) (h : p.Dom) : SeqAt.shaped (.tuple p.dat) = true := by
  refine Bool.and_eq_true_iff.mpr ⟨?_, decide_eq_true ?_⟩
  · simp only [PyData.canLay0, P8.dat, PyData.canLayAll0]
    rw [ok_pt h.pt, ok_cm h.cm, ok_sg h.sg]
    rfl
  · simp only [PyData.depth, P8.dat, PyData.depthAll]
    omega
/-! ### parts of two readers, mixed -/
def P8.mix (q p : P8) (i : Nat) : P8 := match i with
  | 0 => { q with pt := p.pt }
  | 1 => { q with cm := p.cm }
  | 2 => { q with rs := p.rs }
  | 3 => { q with mu := p.mu }
  | 4 => { q with sg := p.sg }
  | 5 => { q with ze := p.ze }
  | 6 => { q with bl := p.bl }
  | _ => { q with ex := p.ex }
theorem lt8 {i : Nat} (h : i < 8) : i = 0 ∨ i = 1 ∨ i = 2 ∨ i = 3 ∨ i = 4 ∨ i = 5 ∨ i = 6 ∨ i = 7 := by omega
theorem P8.mix_vs (q p : P8) {i : Nat} (h : i < 8) : q.vs.set i (at_ p.vs i) = (q.mix p i).vs := by
  rcases lt8 h with rfl | rfl | rfl | rfl | rfl | rfl | rfl | rfl <;> rfl
theorem P8.Dom.mix {q p : P8} (hq : q.Dom) (hp : p.Dom) {i : Nat} (h : i < 8) : (q.mix p i).Dom := by
  rcases lt8 h with rfl | rfl | rfl | rfl | rfl | rfl | rfl | rfl
  · exact ⟨hp.pt, hq.cm, hq.rs, hq.sg⟩
  · exact ⟨hq.pt, hp.cm, hq.rs, hq.sg⟩
  · exact ⟨hq.pt, hq.cm, hp.rs, hq.sg⟩
  · exact ⟨hq.pt, hq.cm, hq.rs, hq.sg⟩
  · exact ⟨hq.pt, hq.cm, hq.rs, hp.sg⟩
  · exact ⟨hq.pt, hq.cm, hq.rs, hq.sg⟩
  · exact ⟨hq.pt, hq.cm, hq.rs, hq.sg⟩
  · exact ⟨hq.pt, hq.cm, hq.rs, hq.sg⟩
theorem P8.len (p : P8) : p.vs.length = 8 := rfl
theorem P8.valOk {H : Hp} (p : P8) {i : Nat} (h : i < 8) : ValOk H (boAt i) (at_ p.vs i) := by
  rcases lt8 h with rfl | rfl | rfl | rfl | rfl | rfl | rfl | rfl
  · exact .str _
  · exact .str _
  · exact .int _
  · exact .bl _
  · exact .str _
  · exact .bl _
  · exact .bl _
  · exact .bl _
theorem among_mem {v : V} {cs : List V} (m : v ∈ cs) : among v cs = true := List.any_eq_true.mpr ⟨v, m, by simp⟩
theorem among_not {v : V} {cs : List V} (m : ¬ v ∈ cs) : among v cs = false := by
  cases e : among v cs with
  | false => rfl
  | true =>
    obtain ⟨c, hc, z⟩ := List.any_eq_true.mp e
    rw [Bool.and_eq_true] at z
    exact absurd (by rw [of_decide_eq_true z.2]; exact hc) m
theorem bo_mem (b : Bool) : V.bl b ∈ boL := by cases b <;> simp [boL]
theorem P8.Dom.among {p : P8} (h : p.Dom) {i : Nat} (hi : i < 8) : Ra.among (at_ p.vs i) (chAt i) = true := by
  rcases lt8 hi with rfl | rfl | rfl | rfl | rfl | rfl | rfl | rfl
  · exact among_mem h.pt
  · exact among_mem h.cm
  · exact among_mem h.rs
  · exact among_mem (bo_mem _)
  · exact among_mem h.sg
  · exact among_mem (bo_mem _)
  · exact among_mem (bo_mem _)
  · exact among_mem (bo_mem _)
/-- clashes at a place, read off the first, the second and the seventh part -/
theorem clash_other {ws : List V} {i : Nat} (h : i < 8) (h1 : i ≠ 1) (h6 : i ≠ 6) : clash ws (nameAt i) = false := by
  have e1 : ¬ nameAt i = "comma" := by
    rcases lt8 h with rfl | rfl | rfl | rfl | rfl | rfl | rfl | rfl <;> first | exact absurd rfl h1 | decide +kernel
  have e6 : ¬ nameAt i = "blanks" := by
    rcases lt8 h with rfl | rfl | rfl | rfl | rfl | rfl | rfl | rfl <;> first | exact absurd rfl h6 | decide +kernel
  unfold clash
  rw [if_neg e1, decide_eq_false e6, Bool.false_and]
theorem clash_1 (ws : List V) : clash ws (nameAt 1) = (!decide (at_ ws 1 = .str "") && decide (at_ ws 1 = at_ ws 0)) := by
  unfold clash
  rw [if_pos (by decide +kernel)]
theorem clash_6 (ws : List V) : clash ws (nameAt 6) = (decide (at_ ws 6 = .bl true) && decide (at_ ws 1 = .str " ")) := by
  unfold clash
  rw [if_neg (by decide +kernel), decide_eq_true (by decide +kernel), Bool.true_and]
theorem P8.Ok.clash {p : P8} (h : p.Ok) {i : Nat} (hi : i < 8) : Ra.clash p.vs (nameAt i) = false := by
  by_cases h1 : i = 1
  · subst h1
    rw [clash_1]
    show (!decide (V.str p.cm = V.str "") && decide (V.str p.cm = V.str p.pt)) = false
    rcases h.ne with e | e
    · rw [e]
      rfl
    · rw [decide_eq_false (p := V.str p.cm = V.str p.pt) (fun z => e (V.str.inj z)), Bool.and_false]
  · by_cases h6 : i = 6
    · subst h6
      rw [clash_6]
      show (decide (V.bl p.bl = V.bl true) && decide (V.str p.cm = V.str " ")) = false
      by_cases e : p.bl = true
      · have e2 : ¬ p.cm = " " := fun z => h.nb ⟨e, z⟩
        rw [decide_eq_false (p := V.str p.cm = V.str " ") (fun z => e2 (V.str.inj z)), Bool.and_false]
      · rw [decide_eq_false (p := V.bl p.bl = V.bl true) (fun z => e (V.bl.inj z)), Bool.false_and]
    · exact clash_other hi h1 h6
theorem P8.Ok.right {p : P8} (h : p.Ok) {i : Nat} (hi : i < 8) : wrongAt p.vs i = false := by
  unfold wrongAt
  rw [h.toDom.among hi, h.clash hi]
  rfl
theorem P8.Ok.first {p : P8} (h : p.Ok) : firstWrong p.vs = none := first_none fun j hj => h.right hj
/-! ### spoilt parts -/
theorem ValOk.but {K : PySem.W.Frag} {H H' : Hp} {a : Addr} {bo : Bool} {v : V} (h : ValOk H bo v) (R : RowOk K H a) (s : But a H H') : ValOk H' bo v := by
  cases h with
  | non => exact .non
  | bl b => exact .bl b
  | int i => exact .int i
  | str x => exact .str x
  | tup h ok => exact .tup (s _ _ (R.tup h) h) ok
  | @dct d h hb =>
    refine .dct (s _ _ (fun z => ?_) h) hb
    obtain ⟨xs, e⟩ := R.some
    rw [z, e] at h
    cases h
theorem ValOk.list {H : Hp} {l : Addr} {xs : List V} {bo : Bool} {v : V} {o : HO} (h : ValOk H bo v) (hl : H l = some (.lst xs)) : ValOk (L2.upd H l o) bo v := by
  cases h with
  | non => exact .non
  | bl b => exact .bl b
  | int i => exact .int i
  | str x => exact .str x
  | tup h ok => exact .tup (by rw [upd_ne (ne_of h hl (by intro z; cases z))]; exact h) ok
  | dct h hb => exact .dct (by rw [upd_ne (ne_of h hl (by intro z; cases z))]; exact h) hb
/-- what spoils a part -/
def OddOk (H : Hp) (i : Nat) (v : V) : Prop := ValOk H (boAt i) v ∧ ¬ v ∈ chAt i
def OddL (H : Hp) (i : Nat) (l : Addr) : Prop := ∃ vs, H l = some (.lst vs) ∧ vs ≠ [] ∧ vs.length ≤ 6 ∧ ∀ v ∈ vs, OddOk H i v
theorem OddL.same {H H' : Hp} {i : Nat} {l : Addr} (h : OddL H i l) (s : Same H H') : OddL H' i l := by
  obtain ⟨vs, e, n, z, k⟩ := h
  exact ⟨vs, s _ _ e, n, z, fun v m => ⟨(k v m).1.same s, (k v m).2⟩⟩
theorem OddL.but {K : PySem.W.Frag} {H H' : Hp} {a : Addr} {i : Nat} {l : Addr} (h : OddL H i l) (R : RowOk K H a) (n : l ≠ a) (s : But a H H') : OddL H' i l := by
  obtain ⟨vs, e, n1, z, k⟩ := h
  exact ⟨vs, s _ _ n e, n1, z, fun v m => ⟨(k v m).1.but R s, (k v m).2⟩⟩
theorem OddL.list {H : Hp} {i : Nat} {l p : Addr} {xs : List V} {o : HO} (h : OddL H i l) (hp : H p = some (.lst xs)) (n : l ≠ p) : OddL (L2.upd H p o) i l := by
  obtain ⟨vs, e, n1, z, k⟩ := h
  exact ⟨vs, by rw [upd_ne n]; exact e, n1, z, fun v m => ⟨(k v m).1.list hp, (k v m).2⟩⟩
/-- what is wrong at a place hangs on the parts up to it -/
theorem wrong_ext {ws vs : List V} {j : Nat} (hj : j < 8) (h : ∀ k, k ≤ j → at_ ws k = at_ vs k) : wrongAt ws j = wrongAt vs j := by
  unfold wrongAt
  rw [h j (Nat.le_refl _)]
  congr 1
  by_cases h1 : j = 1
  · subst h1
    rw [clash_1, clash_1, h 1 (by omega), h 0 (by omega)]
  · by_cases h6 : j = 6
    · subst h6
      rw [clash_6, clash_6, h 6 (by omega), h 1 (by omega)]
    · rw [clash_other hj h1 h6, clash_other hj h1 h6]
theorem at_set_eq {ws : List V} {i : Nat} {v : V} (h : i < ws.length) : at_ (ws.set i v) i = v := by
  have e := at_get (ws := ws.set i v) (i := i) (by rw [List.length_set]; exact h)
  rw [List.getElem?_set_self h] at e
  exact (Option.some.inj e).symm
theorem at_set_ne {ws : List V} {i j : Nat} {v : V} (h : j ≠ i) : at_ (ws.set i v) j = at_ ws j := by
  unfold at_
  rw [List.getD_eq_getElem?_getD, List.getD_eq_getElem?_getD, List.getElem?_set_ne (Ne.symm h)]
/-- the point twice -/
theorem P8.Ok.twice {p : P8} (h : p.Ok) (n : p.pt ≠ "") : firstWrong [.str p.pt, .str p.pt, .int p.rs, .bl p.mu, .str p.sg, .bl p.ze, .bl p.bl, .bl p.ex] = some "comma" := by
  refine first_some (i := 1) (fun j hj => ?_) ?_ (by decide)
  · have : j = 0 := by omega
    subst this
    have e := h.right (i := 0) (by decide)
    rw [← e]
    exact wrong_ext (by decide) fun k hk => by
      have : k = 0 := by omega
      subst this
      rfl
  · unfold wrongAt
    rw [clash_1]
    show (!Ra.among (.str p.pt) (chAt 1) || (!decide (V.str p.pt = V.str "") && decide (V.str p.pt = V.str p.pt))) = true
    rw [decide_eq_false (p := V.str p.pt = V.str "") (fun z => n (V.str.inj z)), decide_eq_true (p := V.str p.pt = V.str p.pt) rfl]
    simp
/-- a blank between the groups, and blanks -/
theorem P8.Ok.blank {p : P8} (h : p.Ok) : firstWrong [.str p.pt, .str " ", .int p.rs, .bl p.mu, .str p.sg, .bl p.ze, .bl true, .non] = some "blanks" := by
  refine first_some (i := 6) (fun j hj => ?_) ?_ (by decide)
  · have np : ¬ (" " : Str) = p.pt := fun z => by
      have m := h.pt
      rw [← z] at m
      revert m
      decide +kernel
    have : j = 0 ∨ j = 1 ∨ j = 2 ∨ j = 3 ∨ j = 4 ∨ j = 5 := by omega
    by_cases h1 : j = 1
    · subst h1
      unfold wrongAt
      rw [clash_1]
      show (!Ra.among (.str " ") (chAt 1) || (!decide (V.str " " = V.str "") && decide (V.str " " = V.str p.pt))) = false
      rw [decide_eq_false (p := V.str " " = V.str p.pt) (fun z => np (V.str.inj z)), Bool.and_false, Bool.or_false, among_mem (by simp [chAt, chL, cmL])]
      rfl
    · have e := h.toDom.among (i := j) (by omega)
      unfold wrongAt
      rw [clash_other (by omega) h1 (by omega), Bool.or_false]
      rcases this with rfl | rfl | rfl | rfl | rfl | rfl
      · exact congrArg (fun b => !b) e
      · exact absurd rfl h1
      · exact congrArg (fun b => !b) e
      · exact congrArg (fun b => !b) e
      · exact congrArg (fun b => !b) e
      · exact congrArg (fun b => !b) e
  · unfold wrongAt
    rw [clash_6]
    show (!Ra.among (.bl true) (chAt 6) || (decide (V.bl true = V.bl true) && decide (V.str " " = V.str " "))) = true
    rw [decide_eq_true (p := V.bl true = V.bl true) rfl, decide_eq_true (p := V.str " " = V.str " ") rfl]
    simp
/-! ### data: four of the parts -/
def P8.vsA (p : P8) : List V := [.str p.pt, .str p.cm, .int p.rs, .bl p.mu]
def P8.vsB (p : P8) : List V := [.str p.sg, .bl p.ze, .bl p.bl, .bl p.ex]
def P8.datA (p : P8) : List PyData := [.str p.pt, .str p.cm, .int p.rs, .bool p.mu]
def P8.datB (p : P8) : List PyData := [.str p.sg, .bool p.ze, .bool p.bl, .bool p.ex]
theorem P8.dpA {K : PySem.W.Frag} {H : Hp} (p : P8) : DpAll K H p.vsA p.datA := .cons (.str _) (.cons (.str _) (.cons (.int _) (.cons (.bl _) .nil)))
theorem P8.dpB {K : PySem.W.Frag} {H : Hp} (p : P8) : DpAll K H p.vsB p.datB := .cons (.str _) (.cons (.bl _) (.cons (.bl _) (.cons (.bl _) .nil)))
theorem P8.shapedA (p : P8) (h : p.Dom) : SeqAt.shaped (.tuple p.datA) = true := by
  refine Bool.and_eq_true_iff.mpr ⟨?_, decide_eq_true ?_⟩
  · simp only [PyData.canLay0, P8.datA, PyData.canLayAll0]
    rw [ok_pt h.pt, ok_cm h.cm]
    rfl
  · simp only [PyData.depth, P8.datA, PyData.depthAll]
    omega
theorem P8.shapedB (p : P8) (h : p.Dom) : SeqAt.shaped (.tuple p.datB) = true := by
  refine Bool.and_eq_true_iff.mpr ⟨?_, decide_eq_true ?_⟩
  · simp only [PyData.canLay0, P8.datB, PyData.canLayAll0]
    rw [ok_sg h.sg]
    rfl
  · simp only [PyData.depth, P8.datB, PyData.depthAll]
    omega
theorem eqv_self {d : PyData} (h : SeqAt.shaped d = true) : PyData.eqv d d = true := SeqAt.eqv_refl d (SeqAt.canLay_of_shaped h)
theorem wholeA {n : Nat} (h : n = 8) : ¬ (HT.sIx n 0 none = 0 ∧ HT.sIx n n (some 4) = n) := by subst h; decide
theorem wholeB {n : Nat} (h : n = 8) : ¬ (HT.sIx n 0 (some 4) = 0 ∧ HT.sIx n n none = n) := by subst h; decide
theorem wholeC {n : Nat} (h : n = 8) : ¬ (HT.sIx n 0 (some 2) = 0 ∧ HT.sIx n n none = n) := by subst h; decide
theorem wholeD {n : Nat} (h : n = 8) : ¬ (HT.sIx n 0 (some 2) = 0 ∧ HT.sIx n n (some 6) = n) := by subst h; decide
/-! ### the odd values of the law -/
theorem odd0 {H : Hp} {q : Addr} (h : H q = some (.tup [.str "."])) : ∀ v ∈ [V.non, V.str ";", V.str "..", V.int 0, V.ref q], OddOk H 0 v := by
  intro v hv
  have hv2 : v = V.non ∨ v = V.str ";" ∨ v = V.str ".." ∨ v = V.int 0 ∨ v = V.ref q := by simpa using hv
  rcases hv2 with rfl | rfl | rfl | rfl | rfl
  · exact ⟨.non, by decide +kernel⟩
  · exact ⟨.str _, by decide +kernel⟩
  · exact ⟨.str _, by decide +kernel⟩
  · exact ⟨.int _, by decide +kernel⟩
  · exact ⟨.tup (xs := ["."]) h (by decide +kernel), by simp [chAt, chL, ptL, cmL, rsL, boL, sgL]⟩
theorem odd1 {H : Hp}   : ∀ v ∈ [V.non, V.str ";", V.str "''", V.int 0, V.bl true], OddOk H 1 v := by
  intro v hv
  have hv2 : v = V.non ∨ v = V.str ";" ∨ v = V.str "''" ∨ v = V.int 0 ∨ v = V.bl true := by simpa using hv
  rcases hv2 with rfl | rfl | rfl | rfl | rfl
  · exact ⟨.non, by decide +kernel⟩
  · exact ⟨.str _, by decide +kernel⟩
  · exact ⟨.str _, by decide +kernel⟩
  · exact ⟨.int _, by decide +kernel⟩
  · exact ⟨.bl _, by decide +kernel⟩
theorem odd2 {H : Hp}   : ∀ v ∈ [V.non, V.int 1, V.int 4, V.bl true, V.str "3", V.int 0], OddOk H 2 v := by
  intro v hv
  have hv2 : v = V.non ∨ v = V.int 1 ∨ v = V.int 4 ∨ v = V.bl true ∨ v = V.str "3" ∨ v = V.int 0 := by simpa using hv
  rcases hv2 with rfl | rfl | rfl | rfl | rfl | rfl
  · exact ⟨.non, by decide +kernel⟩
  · exact ⟨.int _, by decide +kernel⟩
  · exact ⟨.int _, by decide +kernel⟩
  · exact ⟨.bl _, by decide +kernel⟩
  · exact ⟨.str _, by decide +kernel⟩
  · exact ⟨.int _, by decide +kernel⟩
theorem odd3 {H : Hp}   : ∀ v ∈ [V.non, V.int 0, V.int 1, V.str "True"], OddOk H 3 v := by
  intro v hv
  have hv2 : v = V.non ∨ v = V.int 0 ∨ v = V.int 1 ∨ v = V.str "True" := by simpa using hv
  rcases hv2 with rfl | rfl | rfl | rfl
  · exact ⟨.non, by decide +kernel⟩
  · exact ⟨.int _, by decide +kernel⟩
  · exact ⟨.int _, by decide +kernel⟩
  · exact ⟨.str _, by decide +kernel⟩
theorem odd4 {H : Hp} {q : Addr} (h : H q = some (.tup [.str "ahead"])) : ∀ v ∈ [V.non, V.str "", V.str "Ahead", V.int 0, V.ref q], OddOk H 4 v := by
  intro v hv
  have hv2 : v = V.non ∨ v = V.str "" ∨ v = V.str "Ahead" ∨ v = V.int 0 ∨ v = V.ref q := by simpa using hv
  rcases hv2 with rfl | rfl | rfl | rfl | rfl
  · exact ⟨.non, by decide +kernel⟩
  · exact ⟨.str _, by decide +kernel⟩
  · exact ⟨.str _, by decide +kernel⟩
  · exact ⟨.int _, by decide +kernel⟩
  · exact ⟨.tup (xs := ["ahead"]) h (by decide +kernel), by simp [chAt, chL, ptL, cmL, rsL, boL, sgL]⟩
theorem odd5 {H : Hp}   : ∀ v ∈ [V.non, V.int 0, V.int 1, V.str "False"], OddOk H 5 v := by
  intro v hv
  have hv2 : v = V.non ∨ v = V.int 0 ∨ v = V.int 1 ∨ v = V.str "False" := by simpa using hv
  rcases hv2 with rfl | rfl | rfl | rfl
  · exact ⟨.non, by decide +kernel⟩
  · exact ⟨.int _, by decide +kernel⟩
  · exact ⟨.int _, by decide +kernel⟩
  · exact ⟨.str _, by decide +kernel⟩
theorem odd6 {H : Hp} {q : Addr} (h : H q = some (.tup [])) : ∀ v ∈ [V.non, V.int 0, V.int 1, V.ref q], OddOk H 6 v := by
  intro v hv
  have hv2 : v = V.non ∨ v = V.int 0 ∨ v = V.int 1 ∨ v = V.ref q := by simpa using hv
  rcases hv2 with rfl | rfl | rfl | rfl
  · exact ⟨.non, by decide +kernel⟩
  · exact ⟨.int _, by decide +kernel⟩
  · exact ⟨.int _, by decide +kernel⟩
  · exact ⟨.tup (xs := []) h (by decide), by simp [chAt, chL, ptL, cmL, rsL, boL, sgL]⟩
theorem odd7 {H : Hp} {q : Addr} (h : H q = some (.dK [])) : ∀ v ∈ [V.non, V.int 0, V.int 1, V.ref q], OddOk H 7 v := by
  intro v hv
  have hv2 : v = V.non ∨ v = V.int 0 ∨ v = V.int 1 ∨ v = V.ref q := by simpa using hv
  rcases hv2 with rfl | rfl | rfl | rfl
  · exact ⟨.non, by decide +kernel⟩
  · exact ⟨.int _, by decide +kernel⟩
  · exact ⟨.int _, by decide +kernel⟩
  · exact ⟨.dct h rfl, by simp [chAt, chL, ptL, cmL, rsL, boL, sgL]⟩
/-! ### an error of a class is what its name in a clause names -/
theorem exm_self {K : PySem.W.Frag} {S : Addr} (h1 : PySem.W.subIn K (.ref S) (.type "BaseException") = some true) (h2 : PySem.W.isClsIn K S = true) (h3 : PySem.W.typeIn K (.ref S) = some (.type "type")) (h4 : PySem.W.subIn K (.ref S) (.ref S) = some true) :
    PySem.W.exmOne K (.ref S) (.ref S) = some true := by
  have e1 : (PySem.W.subIn K (.ref S) (.type "BaseException") == some true) = true := by rw [h1] <;> rfl
  have e2 : ((PySem.W.clsIn K S).isSome && PySem.W.typeIn K (.ref S) == some (.type "type")) = true := by
    have h2' : (PySem.W.clsIn K S).isSome = true := h2
    rw [h2', h3] <;> rfl
  show (if (PySem.W.subIn K (.ref S) (.type "BaseException") == some true) = true then (if ((PySem.W.clsIn K S).isSome && PySem.W.typeIn K (.ref S) == some (.type "type")) = true then PySem.W.subIn K (.ref S) (.ref S) else none) else none) = some true
  rw [if_pos e1, if_pos e2]
  exact h4
end Ra

namespace Ra
open PySem L2 RaX
def top (i : Nat) : Stmt := PySem.Challenge.pw_readersapart_k02_no_readers.main.body.getD i (.Pass ⟨0, 0, 0, 0⟩)
abbrev sTaken : Stmt := top 118
/-- a draw -/
def spTaken (K : PySem.W.Frag) : Sp := fun vs H Q _ => ∃ (a : Addr) (m : Int), vs = [.ref a, .int m] ∧ 0 < m ∧ m < 1073741824 ∧ RowOk K H a ∧
  ∀ v H', 0 ≤ v → v < m → RowOk K H' a → But a H H' → Q (.int v) H'
structure Bltn (mg : Str → Option Value) : Prop where
  int : mg "int" = none
  len : mg "len" = none
section
variable {P : Program} {w : World} {K : PySem.W.Frag} {mg : Str → Option Value} {base : Heap} {CX : CXT}
theorem scTk : FnScope ["_law_row", "_law_many", "_law_found", "_law_cell"] ["_law_row", "_law_many"] (defScope sTaken) := ⟨rfl, rfl, rfl, by decide +kernel, rfl, by decide +kernel, by decide +kernel⟩
theorem ok_taken {f : Addr} {fd : FuncData} (F : Fun K "_law_taken" "_law_taken" sTaken f fd) (T : Bltn mg) : FnOk P w K mg base CX0 1 f fd ["_law_row", "_law_many"] (spTaken K) := by
  refine F.ok scTk (fun vs H Q E h => ?_) (fun cdv A outer s H vs Q E hr h => ?_)
  · obtain ⟨a, m, rfl, _⟩ := h
    rfl
  · obtain ⟨a, m, rfl, hm0, hm1, ⟨sc, ns, i, z, r, R⟩, k⟩ := h
    refine ⟨_, pss_cons (ps_if (pt_cmpR op_gt (pe_ix ix_list (pv 0) pe_int (fun _ _ => rfl)) pe_int (nomark _))
        (pss_cons (ps_set (i := 2) scTk.nd rfl (Or.inl rfl) (pe_op op_mod (pe_callTy call_int1 rfl T.int PyProof.Rows.boot_int (pa_cons (pe_ix ix_list (pv 0) pe_int (fun _ _ => rfl)) pa_nil)) (pv 1)))
        (pss_cons (ps_asg (pe_op op_fdiv (pe_ix ix_list (pv 0) pe_int (fun _ _ => rfl)) (pv 1)) (pg_sub (pv 0) pe_int set_list))
        (pss_one (ps_ret (pv 2))))) pss_nil)
      (pss_cons (ps_asg (pe_op op_add (pe_ix ix_list (pv 0) pe_int (fun _ _ => rfl)) pe_int) (pg_sub (pv 0) pe_int set_list))
      (pss_cons (ps_if (pt_cmpR op_gt (pe_ix ix_list (pv 0) pe_int (fun _ _ => rfl)) (pe_callB call_len_seq rfl T.len PySem.boot_len (pa_cons (pe_ix ix_list (pv 0) pe_int (fun _ _ => rfl)) pa_nil)) (nomark _))
        (pss_cons (ps_asg (pe_op op_mod (pe_callTy call_int1 rfl T.int PyProof.Rows.boot_int (pa_cons (pe_op op_add (pe_op op_mul (pe_ix ix_list (pv 0) pe_int (fun _ _ => rfl)) pe_int) pe_int) pa_nil)) pe_int) (pg_sub (pv 0) pe_int set_list))
        (pss_one (ps_ret (pe_op op_mod (pe_callTy call_int1 rfl T.int PyProof.Rows.boot_int (pa_cons (pe_op op_fdiv (pe_ix ix_list (pv 0) pe_int (fun _ _ => rfl)) pe_int) pa_nil)) (pv 1))))) pss_nil)
      (pss_cons (ps_set (i := 3) scTk.nd rfl (Or.inl rfl) (pe_ix ix_list (pe_ix ix_list (pv 0) pe_int (fun _ _ => rfl)) (pe_op op_sub (pe_ix ix_list (pv 0) pe_int (fun _ _ => rfl)) pe_int) (fun _ _ => rfl)))
      (pss_cons (ps_asg (pe_op op_mod (pe_callTy call_int1 rfl T.int PyProof.Rows.boot_int (pa_cons (pe_op op_add (pe_op op_add (pe_op op_mul (pe_ix ix_list (pv 0) pe_int (fun _ _ => rfl)) pe_int) (pv 3)) pe_int) pa_nil)) pe_int) (pg_sub (pv 0) pe_int set_list))
      (pss_cons (ps_if (pt_cmpR op_ge (pv 3) (pe_op op_pow pe_int pe_int) (nomark _))
        (pss_one (ps_asg (pe_op op_fdiv (pv 3) (pv 1)) (pg_sub (pv 0) pe_int set_list))) pss_nil)
      (pss_one (ps_ret (pe_op op_mod (pe_callTy call_int1 rfl T.int PyProof.Rows.boot_int (pa_cons (pv 3) pa_nil)) (pv 1))))))))), ?_⟩
    refine ⟨_, rfl, a, _, _, _, rfl, rfl, SqL.of R.row, rfl, _, _, rfl, rfl, _, rfl, ?_⟩
    refine ite2 (fun c => ?_) fun c => ?_
    · -- a rest is left
      refine ⟨_, rfl, a, _, _, _, rfl, rfl, SqL.of R.row, rfl, .inl ⟨_, rfl, _, rfl, _, _, rfl, rfl, hm0, ?_⟩⟩
      refine ⟨_, rfl, a, _, _, _, rfl, rfl, SqL.of R.row, rfl, _, rfl, _, _, rfl, rfl, ⟨hm0, hm1⟩, _, rfl, a, _, _, _, rfl, rfl, R.row, rfl, _, rfl, ?_⟩
      exact k _ _ (Int.emod_nonneg _ (by omega)) (Int.emod_lt_of_pos _ hm0) ⟨sc, ns, _, _, _, R.upd R.nn⟩ But.upd
    · have R1 : RowAt K (L2.upd H a (.lst (rowV sc (i + 1) z r))) a sc ns (i + 1) z r := R.upd (by have := R.nn; omega)
      refine ⟨_, rfl, a, _, _, _, rfl, rfl, SqL.of R.row, rfl, _, _, rfl, rfl, _, rfl, a, _, _, _, rfl, rfl, R.row, rfl, ?_⟩
      refine ⟨_, rfl, a, _, _, _, rfl, rfl, SqL.of R1.row, rfl, _, rfl, a, _, _, _, rfl, rfl, SqL.of R1.row, rfl, sc, _, rfl, .inl R1.scr, _, _, rfl, rfl, _, rfl, ?_⟩
      refine ite2 (fun c1 => ?_) fun c1 => ?_
      · -- behind the script's end
        refine ⟨_, rfl, a, _, _, _, rfl, rfl, SqL.of R1.row, rfl, _, _, rfl, rfl, .inr ⟨by decide, by decide⟩, _, _, rfl, rfl, .inl ⟨_, rfl, _, _, rfl, rfl, (by show (0 : Int) < 2147483647; decide), ?_⟩⟩
        have R2 : ∀ y, RowAt K (L2.upd (L2.upd H a (.lst (rowV sc (i + 1) z r))) a (.lst (rowV sc (i + 1) y r))) a sc ns (i + 1) y r := fun y => R1.upd R1.nn
        refine ⟨_, rfl, a, _, _, _, rfl, rfl, R1.row, rfl, ?_⟩
        refine ⟨_, rfl, a, _, _, _, rfl, rfl, SqL.of (R2 _).row, rfl, _, _, rfl, rfl, ⟨by decide, by decide⟩, .inl ⟨_, rfl, _, rfl, _, _, rfl, rfl, hm0, ?_⟩⟩
        exact k _ _ (Int.emod_nonneg _ (by omega)) (Int.emod_lt_of_pos _ hm0) ⟨sc, ns, _, _, _, R2 _⟩ (But.upd.trans But.upd)
      · -- a cell
        have hlen : (ns.map V.int).length = ns.length := List.length_map ..
        have hi : i < ns.length := by
          have q : ¬ (((ns.map V.int).length : Nat) : Int) < i + 1 := fun z => c1 (decide_eq_true z)
          omega
        have h0 := R.nn
        have hat : atI (ns.map V.int) (i + 1 - 1) = some (.int (ns.getD i.toNat 0)) := by
          have e : (i + 1 - 1 : Int) = ((i.toNat : Nat) : Int) := by omega
          rw [e]
          have hj : i.toNat < ns.length := by omega
          refine atI_nat ?_
          rw [List.getElem?_map, List.getElem?_eq_getElem hj]
          simp [hj]
        refine ⟨_, rfl, a, _, _, _, rfl, rfl, SqL.of R1.row, rfl, _, rfl, a, _, _, _, rfl, rfl, SqL.of R1.row, rfl, _, _, rfl, rfl, sc, _, _, _, rfl, rfl, R1.scr, hat, ?_⟩
        refine ⟨_, rfl, a, _, _, _, rfl, rfl, SqL.of R1.row, rfl, _, _, rfl, rfl, .inr ⟨by decide, by decide⟩, _, rfl, _, _, rfl, rfl, _, _, rfl, rfl, .inl ⟨_, rfl, _, _, rfl, rfl, (by show (0 : Int) < 2147483647; decide), ?_⟩⟩
        have R2 : ∀ y, RowAt K (L2.upd (L2.upd H a (.lst (rowV sc (i + 1) z r))) a (.lst (rowV sc (i + 1) y r))) a sc ns (i + 1) y r := fun y => R1.upd R1.nn
        refine ⟨_, rfl, a, _, _, _, rfl, rfl, R1.row, rfl, ?_⟩
        refine ⟨_, rfl, _, _, rfl, rfl, ⟨by decide, by decide, by decide⟩, _, _, rfl, rfl, _, rfl, ?_⟩
        refine ite2 (fun c2 => ?_) fun c2 => ?_
        · refine ⟨_, rfl, _, rfl, _, _, rfl, rfl, ⟨hm0, hm1⟩, _, rfl, a, _, _, _, rfl, rfl, (R2 _).row, rfl, ?_⟩
          refine ⟨_, rfl, .inl ⟨_, rfl, _, rfl, _, _, rfl, rfl, hm0, ?_⟩⟩
          exact k _ _ (Int.emod_nonneg _ (by omega)) (Int.emod_lt_of_pos _ hm0) ⟨sc, ns, _, _, _, (R2 _).upd (R2 0).nn⟩ ((But.upd.trans But.upd).trans But.upd)
        · refine ⟨_, rfl, .inl ⟨_, rfl, _, rfl, _, _, rfl, rfl, hm0, ?_⟩⟩
          exact k _ _ (Int.emod_nonneg _ (by omega)) (Int.emod_lt_of_pos _ hm0) ⟨sc, ns, _, _, _, R2 _⟩ (But.upd.trans But.upd)
end
end Ra

namespace Ra
open PySem L2 RaX
abbrev sParts : Stmt := top 119
/-- the parts of a reader, drawn -/
def spParts (K : PySem.W.Frag) : Sp := fun vs H Q _ => ∃ (a : Addr), vs = [.ref a] ∧ RowOk K H a ∧
  ∀ (p : P8) (t : Addr) (H' : Hp), p.Ok → RowOk K H' a → But a H H' → H' t = some (.tup p.vs) → Q (.ref t) H'
structure TkG (K : PySem.W.Frag) (mg : Str → Option Value) (f : Addr) (fd : FuncData) : Prop where
  g : mg "_law_taken" = some (.ref f)
  k : PySem.W.keepIn K (.ref f) = true
  b : Binds K fd ["_law_row", "_law_many"] []
section
variable {P : Program} {w : World} {K : PySem.W.Frag} {mg : Str → Option Value} {base : Heap} {CX : CXT}
theorem scPa : FnScope ["_law_row", "_law_point", "_law_comma", "_law_blanks", "_law_sign", "_law_ahead"] ["_law_row"] (defScope sParts) := ⟨rfl, rfl, rfl, by decide +kernel, rfl, by decide +kernel, by decide +kernel⟩
theorem ok_parts {f f1 : Addr} {fd fd1 : FuncData} (F : Fun K "_law_parts" "_law_parts" sParts f fd) (G : FnOk P w K mg base CX0 1 f1 fd1 ["_law_row", "_law_many"] (spTaken K)) (g : TkG K mg f1 fd1) :
    FnOk P w K mg base CX0 2 f fd ["_law_row"] (spParts K) := by
  refine F.ok scPa (fun vs H Q E h => ?_) (fun cdv A outer s H vs Q E hr h => ?_)
  · obtain ⟨a, rfl, _⟩ := h
    rfl
  · obtain ⟨a, rfl, R, k⟩ := h
    refine ⟨_, (pss_cons (ps_set (i := 1) scPa.nd rfl (Or.inl rfl) (pe_ix ix_list (pe_lst (pa_cons pe_str (pa_cons pe_str (pa_cons pe_str pa_nil)))) (pe_call G (hr) rfl g.g g.k g.b .nil pass0 (pa_cons (pv 0) (pa_cons pe_int pa_nil))) (fun _ _ => rfl)))
      (pss_cons (ps_set (i := 2) scPa.nd rfl (Or.inl rfl) (pe_ix ix_list (pe_lst (pa_cons pe_str (pa_cons pe_str (pa_cons pe_str (pa_cons pe_str (pa_cons pe_str pa_nil)))))) (pe_call G (hr) rfl g.g g.k g.b .nil pass0 (pa_cons (pv 0) (pa_cons pe_int pa_nil))) (fun _ _ => rfl)))
      (C8.pss_cut (ps_if (pt_cmpR op_eq (pv 2) (pv 1) (nomark _)) (pss_one (ps_set (i := 2) scPa.nd rfl (Or.inl rfl) (pe_ix ix_list (pe_lst (pa_cons pe_str (pa_cons pe_str pa_nil))) (pe_call G (hr) rfl g.g g.k g.b .nil pass0 (pa_cons (pv 0) (pa_cons pe_int pa_nil))) (fun _ _ => rfl)))) pss_nil)
      (C8.pss_cut (ps_set (i := 3) scPa.nd rfl (Or.inl rfl) (pe_and (pe_cmpR op_eq (pe_call G (hr) rfl g.g g.k g.b .nil pass0 (pa_cons (pv 0) (pa_cons pe_int pa_nil))) pe_int (nomark _)) (pe_one (pe_cmpR op_ne (pv 2) pe_str (nomark _)))))
      (pss_cons (ps_set (i := 4) scPa.nd rfl (Or.inl rfl) (pe_ix ix_list (pe_lst (pa_cons pe_str (pa_cons pe_str (pa_cons pe_str pa_nil)))) (pe_call G (hr) rfl g.g g.k g.b .nil pass0 (pa_cons (pv 0) (pa_cons pe_int pa_nil))) (fun _ _ => rfl)))
      (pss_cons (ps_set (i := 5) scPa.nd rfl (Or.inl rfl) (pe_tup (pa_cons (pv 1) (pa_cons (pv 2) (pa_cons (pe_op op_sub pe_int (pe_call G (hr) rfl g.g g.k g.b .nil pass0 (pa_cons (pv 0) (pa_cons pe_int pa_nil)))) (pa_cons (pe_cmpR op_eq (pe_call G (hr) rfl g.g g.k g.b .nil pass0 (pa_cons (pv 0) (pa_cons pe_int pa_nil))) pe_int (nomark _)) pa_nil))))))
      (pss_one (ps_ret (pe_op op_catT (pv 5) (pe_tup (pa_cons (pv 4) (pa_cons (pe_cmpR op_eq (pe_call G (hr) rfl g.g g.k g.b .nil pass0 (pa_cons (pv 0) (pa_cons pe_int pa_nil))) pe_int (nomark _)) (pa_cons (pv 3) (pa_cons (pe_cmpR op_eq (pe_call G (hr) rfl g.g g.k g.b .nil pass0 (pa_cons (pv 0) (pa_cons pe_int pa_nil))) pe_int (nomark _)) pa_nil)))))))))))))), ?_⟩
    -- the point
    refine ⟨by show 3 ≤ sizeLine; decide, fun l hl => ⟨_, rfl, a, 3, rfl, by decide, by decide, R.new hl, fun v H1 v0 v1 R1 B1 => ?_⟩⟩
    obtain ⟨x, hx, mx⟩ := pick (xs := ptL) v0 v1
    obtain ⟨pt, rfl, hpt⟩ := ptL_str mx
    refine ⟨l, _, _, _, rfl, rfl, SqL.of (B1 l _ (R.ne hl) upd_same), hx, ?_⟩
    have C1 : But a H H1 := (But.new hl).trans B1
    clear B1 hx mx v0 v1
    -- the comma
    refine ⟨by show 5 ≤ sizeLine; decide, fun l2 hl2 => ⟨_, rfl, a, 5, rfl, by decide, by decide, R1.new hl2, fun v2 H2 v0 v1 R2 B2 => ?_⟩⟩
    obtain ⟨x, hx, mx⟩ := pick (xs := cmL) v0 v1
    obtain ⟨cm, rfl, hcm⟩ := cmL_str mx
    refine ⟨l2, _, _, _, rfl, rfl, SqL.of (B2 l2 _ (R1.ne hl2) upd_same), hx, ?_⟩
    have C2 : But a H H2 := C1.trans ((But.new hl2).trans B2)
    clear B2 hx mx v0 v1 R1 C1
    -- where both are alike
    refine ⟨fun σ H3 => ∃ cm', σ = [some (.ref a), some (.str pt), some (.str cm'), none, none, none] ∧ V.str cm' ∈ cmL ∧ (cm' = "" ∨ cm' ≠ pt) ∧ RowOk K H3 a ∧ But a H H3, ?_, ?_⟩
    · refine ⟨_, rfl, _, rfl, rfl, _, rfl, ?_⟩
      refine ite2 (fun c => ?_) fun c => ?_
      · refine ⟨by show 2 ≤ sizeLine; decide, fun l3 hl3 => ⟨_, rfl, a, 2, rfl, by decide, by decide, R2.new hl3, fun v3 H3 v0 v1 R3 B3 => ?_⟩⟩
        obtain ⟨x, hx, mx⟩ := pick (xs := [V.str "'", V.str ""]) v0 v1
        have hq : x = V.str "'" ∨ x = V.str "" := by simpa using mx
        have C3 : But a H H3 := C2.trans ((But.new hl3).trans B3)
        have hs := SqL.of (K := K) (B3 l3 _ (R2.ne hl3) upd_same)
        rcases hq with rfl | rfl
        · refine ⟨l3, _, _, _, rfl, rfl, hs, hx, "'", rfl, by simp [cmL], .inr ?_, R3, C3⟩
          intro z
          rw [← z] at hpt
          revert hpt
          decide +kernel
        · exact ⟨l3, _, _, _, rfl, rfl, hs, hx, "", rfl, by simp [cmL], .inl rfl, R3, C3⟩
      · refine ⟨cm, rfl, hcm, .inr fun z => c (decide_eq_true (by rw [z])), R2, C2⟩
    clear hcm R2 C2 cm
    rintro _ H3 ⟨cm, rfl, hcm, hne, R3, C3⟩
    -- blanks
    refine ⟨fun σ H4 => ∃ b : Bool, σ = [some (.ref a), some (.str pt), some (.str cm), some (.bl b), none, none] ∧ ¬ (b = true ∧ cm = " ") ∧ RowOk K H4 a ∧ But a H H4, ?_, ?_⟩
    · refine ⟨_, rfl, a, 3, rfl, by decide, by decide, R3, fun v4 H4 v0 v1 R4 B4 => ⟨rfl, _, rfl, ?_⟩⟩
      refine ite2 (fun c => ?_) fun c => ?_
      · exact ⟨_, rfl, rfl, _, rfl, fun z => by
          have q : (!decide (V.str cm = V.str " ")) = true := z.1
          rw [z.2] at q
          exact absurd q (by decide), R4, C3.trans B4⟩
      · exact ⟨false, rfl, fun z => Bool.noConfusion z.1, R4, C3.trans B4⟩
    clear R3 C3
    rintro _ H4 ⟨b, rfl, hb, R4, C4⟩
    -- the sign
    refine ⟨by show 3 ≤ sizeLine; decide, fun l5 hl5 => ⟨_, rfl, a, 3, rfl, by decide, by decide, R4.new hl5, fun v5 H5 v0 v1 R5 B5 => ?_⟩⟩
    obtain ⟨x, hx, mx⟩ := pick (xs := sgL) v0 v1
    obtain ⟨sg, rfl, hsg⟩ := sgL_str mx
    refine ⟨l5, _, _, _, rfl, rfl, SqL.of (B5 l5 _ (R4.ne hl5) upd_same), hx, ?_⟩
    have C5 : But a H H5 := C4.trans ((But.new hl5).trans B5)
    clear B5 hx mx v0 v1 R4 C4
    -- the first four
    refine ⟨_, rfl, _, rfl, _, rfl, a, 2, rfl, by decide, by decide, R5, fun v6 H6 v60 v61 R6 B6 => ⟨_, _, rfl, rfl, ?_⟩⟩
    refine ⟨_, rfl, a, 2, rfl, by decide, by decide, R6, fun v7 H7 v70 v71 R7 B7 => ⟨rfl, ?_⟩⟩
    refine ⟨by show 4 ≤ sizeLine; decide, fun t8 ht8 => ?_⟩
    have R8 := R7.new (o := .tup [V.str pt, V.str cm, V.int (3 - v6), V.bl (decide (V.int v7 = V.int 0))]) ht8
    have C8 : But a H _ := ((C5.trans B6).trans B7).trans (But.new (o := .tup [V.str pt, V.str cm, V.int (3 - v6), V.bl (decide (V.int v7 = V.int 0))]) ht8)
    -- and the last
    refine ⟨_, rfl, _, rfl, _, rfl, a, 3, rfl, by decide, by decide, R8, fun v9 H9 v90 v91 R9 B9 => ⟨rfl, ?_⟩⟩
    refine ⟨_, rfl, _, rfl, a, 3, rfl, by decide, by decide, R9, fun v10 H10 v100 v101 R10 B10 => ⟨rfl, ?_⟩⟩
    have e8 := (B9.trans B10) t8 _ (R7.ne ht8) upd_same
    refine ⟨by show 4 ≤ sizeLine; decide, fun t11 ht11 => ?_⟩
    refine ⟨t8, t11, _, _, rfl, rfl, SqT.of (Same.new ht11 t8 _ e8), SqT.of upd_same, (by intro z; cases z), (by show 8 ≤ sizeLine; decide), (fun z => nomatch z), fun _ t12 ht12 => ?_⟩
    refine k ⟨pt, cm, 3 - v6, decide (V.int v7 = V.int 0), sg, decide (V.int v9 = V.int 0), b, decide (V.int v10 = V.int 0)⟩ t12 _ ⟨⟨hpt, hcm, ?_, hsg⟩, hne, hb⟩ ((R10.new ht11).new ht12) (((C8.trans B9).trans B10).trans ((But.new ht11).trans (But.new ht12))) upd_same
    have : v6 = 0 ∨ v6 = 1 := by omega
    rcases this with rfl | rfl <;> simp [rsL]
end
end Ra

namespace Ra
open PySem L2 RaX
abbrev sAmong : Stmt := top 19
/-- is the value one of the choices -/
def spAmong (K : PySem.W.Frag) : Sp := fun vs H Q _ => ∃ (v : V) (c : Addr) (bo : Bool) (cs : List V), vs = [v, .ref c] ∧ ValOk H bo v ∧ SqT K H c cs ∧ Chs bo cs ∧ cs.length ≤ 1000 ∧
  ∀ H', Same H H' → Q (.bl (among v cs)) H'
structure BltnR (mg : Str → Option Value) : Prop where
  isi : mg "isinstance" = none
  bool : mg "bool" = none
  any : mg "any" = none
  zip : mg "zip" = none
section
variable {P : Program} {w : World} {K : PySem.W.Frag} {mg : Str → Option Value} {base : Heap} {CX : CXT}
theorem scAm : FnScope ["value", "choices", "choice"] ["value", "choices"] (defScope sAmong) := ⟨rfl, rfl, rfl, by decide +kernel, rfl, by decide +kernel, by decide +kernel⟩
theorem ok_among {f : Addr} {fd : FuncData} (F : Fun K "_is_among" "_is_among" sAmong f fd) (T : BltnR mg) : FnOk P w K mg base CX0 1 f fd ["value", "choices"] (spAmong K) := by
  refine F.ok scAm (fun vs H Q E h => ?_) (fun cdv A outer s H vs Q E hr h => ?_)
  · obtain ⟨v, c, bo, cs, rfl, _⟩ := h
    rfl
  · obtain ⟨v, c, bo, cs, rfl, hv, hc, hcs, hlen, k⟩ := h
    refine ⟨_, pss_one (ps_ret (pe_callB (cr_any rfl) rfl T.any bt_any (pa_cons
      (pe_lc (own := [("choice", 2)]) (g := gName 2) (by rfl) scAm.nd (pi_tup (pv 1)) (blkOk_by (own := [("choice", 2)]) (N := ["value", "choices", "choice"]) (sc := defScope sAmong) (by decide +kernel)) (fun _ _ _ _ _ => pg_name (i := 2) scAm.nd rfl (Or.inl rfl)) (fun _ _ _ _ _ => pts_nil)
        (fun _ _ _ _ _ => (pe_and (pe_cmpR op_eq (pe_callB isiK rfl T.isi bt_isinstance (pa_cons (pv 0) (pa_cons (pe_bltn (v := .ty "bool") rfl T.bool bt_bool rfl) pa_nil))) (pe_callB isiK rfl T.isi bt_isinstance (pa_cons (pv 2) (pa_cons (pe_bltn (v := .ty "bool") rfl T.bool bt_bool rfl) pa_nil))) (nomark _))
          (pe_one (pe_cmpR (op_eq.or (eqDK hr.units)) (pv 0) (pv 2) (nomark _))))))
      pa_nil))), ?_⟩
    have nD : ∀ {D : Addr}, H D = none → ∀ {xs : List V} {H' : Hp}, Same H H' → Same H (L2.upd H' D (.lst xs)) := fun {D} hD {xs} {H'} s b o e => by
      rw [upd_ne (ne_of_none e hD)]
      exact s b o e
    refine ⟨_, rfl, c, rfl, ⟨_, hc⟩, fun D hD => lc_tup (K := K) (a := c) (xs := cs) (fun i H' => Same H H' ∧ H' D = some (.lst ((cs.take i).map fun c => V.bl ((isB v == isB c) && decide (v = c))))) ⟨Same.new hD, upd_same⟩ (fun i H' _ p => Same.seqT p.1 hc) ?_ ?_⟩
    · rintro i x H' hi ⟨s', hD'⟩
      have mx : x ∈ cs := List.mem_of_getElem? hi
      obtain ⟨t1, y1, z1⟩ := isi_bool (K := K) (hv.same s')
      obtain ⟨t2, y2, z2⟩ := isi_flat (K := K) (H := H') hcs mx
      have el : ((cs.take i).map fun c => V.bl ((isB v == isB c) && decide (v = c))).length < sizeLine := by
        have l1 : (cs.take i).length ≤ cs.length := by
          rw [List.length_take]
          exact Nat.min_le_right _ _
        rw [List.length_map]
        exact small1000 (by omega)
      refine ⟨rfl, _, rfl, _, _, _, _, _, rfl, .ty "bool", y1, z1, _, rfl, _, _, _, _, _, rfl, .ty "bool", y2, z2, rfl, _, rfl, ?_⟩
      have ez : decide (V.bl (isB v) = V.bl (isB x)) = (isB v == isB x) := dec_bl
      rw [ez]
      by_cases e : isB v = isB x
      · have e' : (isB v == isB x) = true := by rw [e]; simp
        rw [e']
        refine iteT ⟨_, rfl, _, rfl, eq_one (hv.same s') hcs mx e ?_⟩
        refine ⟨_, hD', el, nD hD s', ?_⟩
        rw [upd_same, take_more hi, List.map_append]
        show some (HO.lst (_ ++ [V.bl (decide (v = x))])) = some (HO.lst (_ ++ [V.bl ((isB v == isB x) && decide (v = x))]))
        rw [e', Bool.true_and]
      · have e' : (isB v == isB x) = false := by simpa using e
        rw [e']
        refine iteF ⟨_, hD', el, nD hD s', ?_⟩
        rw [upd_same, take_more hi, List.map_append]
        show some (HO.lst (_ ++ [V.bl false])) = some (HO.lst (_ ++ [V.bl ((isB v == isB x) && decide (v = x))]))
        rw [e', Bool.false_and]
    · rintro H' ⟨s', hD'⟩
      rw [List.take_length] at hD'
      refine ⟨D, cs.map (fun c => (isB v == isB c) && decide (v = c)), rfl, SqL.of (by rw [hD', List.map_map]; rfl), ?_⟩
      have e : (cs.map (fun c => (isB v == isB c) && decide (v = c))).any id = among v cs := by
        rw [List.any_map]
        rfl
      rw [e]
      exact k _ s'
end
abbrev sClash : Stmt := top 20
abbrev sFirst : Stmt := top 18
/-- a part beside those ahead of it -/
def spClash (K : PySem.W.Frag) : Sp := fun vs H Q _ => ∃ (nm : Str) (t : Addr) (ws : List V), vs = [.str nm, .ref t] ∧ Rd H t (.tup ws) ∧ ws.length = 8 ∧
  (nm = "comma" → (∃ x, at_ ws 0 = .str x) ∧ ∃ x, at_ ws 1 = .str x) ∧ (nm = "blanks" → (∃ x, at_ ws 1 = .str x) ∧ ∃ b, at_ ws 6 = .bl b) ∧ Q (.bl (clash ws nm)) H
def nameV : Option Str → V
  | some n => .str n
  | none => .non
/-- the name of the first part that cannot be -/
def spFirst (K : PySem.W.Frag) : Sp := fun vs H Q _ => ∃ (t : Addr) (ws : List V), vs = [.ref t] ∧ Rd H t (.tup ws) ∧ ws.length = 8 ∧ (∀ i, i < 8 → ValOk H (boAt i) (at_ ws i)) ∧
  ∀ H', Same H H' → Q (nameV (firstWrong ws)) H'
/-- a global def, how it is called -/
structure GFn (K : PySem.W.Frag) (mg : Str → Option Value) (x : Str) (f : Addr) (fd : FuncData) (ps : List Str) : Prop where
  g : mg x = some (.ref f)
  k : PySem.W.keepIn K (.ref f) = true
  b : Binds K fd ps []
structure TFw (K : PySem.W.Frag) (mg : Str → Option Value) (c0 : Addr) : Prop where
  zip : mg "zip" = none
  ch : mg "CHOICES" = some (.ref c0)
  chk : ChK K c0
section
variable {P : Program} {w : World} {K : PySem.W.Frag} {mg : Str → Option Value} {base : Heap} {CX : CXT}
theorem scCl : FnScope ["name", "values"] ["name", "values"] (defScope sClash) := ⟨rfl, rfl, rfl, by decide +kernel, rfl, by decide +kernel, by decide +kernel⟩
theorem ok_clash {f : Addr} {fd : FuncData} (F : Fun K "_clashes" "_clashes" sClash f fd) : FnOk P w K mg base CX0 1 f fd ["name", "values"] (spClash K) := by
  refine F.ok scCl (fun vs H Q E h => ?_) (fun cdv A outer s H vs Q E hr h => ?_)
  · obtain ⟨nm, t, ws, rfl, _⟩ := h
    rfl
  · obtain ⟨nm, t, ws, rfl, ht, hl, h1, h2, k⟩ := h
    refine ⟨_, (pss_cons (ps_if (pt_cmpR op_eq (pv 0) pe_str (nomark _)) (pss_one (ps_ret (pe_and (pe_cmpR op_ne (pe_ix ix_tup (pv 1) pe_int (fun _ _ => rfl)) pe_str (nomark _)) (pe_one (pe_cmpR op_eq (pe_ix ix_tup (pv 1) pe_int (fun _ _ => rfl)) (pe_ix ix_tup (pv 1) pe_int (fun _ _ => rfl)) (nomark _)))))) pss_nil)
      (pss_one (ps_ret (pe_and (pe_cmpR op_eq (pv 0) pe_str (nomark _)) (pe_and (pe_ix ix_tup (pv 1) pe_int (fun _ _ => rfl)) (pe_one (pe_cmpR op_eq (pe_ix ix_tup (pv 1) pe_int (fun _ _ => rfl)) pe_str (nomark _)))))))), ?_⟩
    have a0 : atI ws 0 = some (at_ ws 0) := atI_at (i := 0) (by omega)
    have a1 : atI ws 1 = some (at_ ws 1) := atI_at (i := 1) (by omega)
    have a6 : atI ws 6 = some (at_ ws 6) := atI_at (i := 6) (by omega)
    refine ⟨_, rfl, rfl, _, rfl, ite2 (fun c => ?_) fun c => ?_⟩
    · have en : nm = "comma" := V.str.inj (of_decide_eq_true c)
      obtain ⟨⟨x, e0⟩, y, e1⟩ := h1 en
      have ek : clash ws nm = (!decide (V.str y = V.str "") && decide (V.str y = V.str x)) := by
        unfold clash
        rw [if_pos en, e0, e1]
      rw [ek] at k
      refine ⟨_, rfl, t, _, _, _, rfl, rfl, SqT.rd ht, a1, ?_⟩
      rw [e1]
      refine ⟨rfl, _, rfl, ite2 (fun c2 => ?_) fun c2 => ?_⟩
      · rw [c2] at k
        refine ⟨_, rfl, t, _, _, _, rfl, rfl, SqT.rd ht, a1, _, rfl, t, _, _, _, rfl, rfl, SqT.rd ht, a0, ?_⟩
        rw [e0, e1]
        exact ⟨rfl, k⟩
      · have z : (!decide (V.str y = V.str "")) = false := by simpa using c2
        rw [z] at k
        exact k
    · have en : ¬ nm = "comma" := fun z => c (decide_eq_true (by rw [z]))
      have ek : clash ws nm = (decide (nm = "blanks") && (decide (at_ ws 6 = .bl true) && decide (at_ ws 1 = .str " "))) := by
        unfold clash
        rw [if_neg en]
      rw [ek] at k
      refine ⟨_, rfl, rfl, _, rfl, ite2 (fun c2 => ?_) fun c2 => ?_⟩
      · have en2 : nm = "blanks" := V.str.inj (of_decide_eq_true c2)
        obtain ⟨⟨y, e1⟩, b, e6⟩ := h2 en2
        rw [decide_eq_true en2, Bool.true_and, e1, e6] at k
        refine ⟨_, rfl, t, _, _, _, rfl, rfl, SqT.rd ht, a6, ?_⟩
        rw [e6]
        refine ⟨_, rfl, ?_⟩
        cases b with
        | true =>
          refine iteT ⟨_, rfl, t, _, _, _, rfl, rfl, SqT.rd ht, a1, ?_⟩
          rw [e1]
          exact ⟨rfl, k⟩
        | false => exact iteF k
      · have en2 : ¬ nm = "blanks" := fun z => c2 (decide_eq_true (by rw [z]))
        rw [decide_eq_false en2, Bool.false_and] at k
        exact k
theorem among_str {v : V} {cs : List V} (h : among v cs = true) (hs : ∀ x ∈ cs, ∃ s, x = V.str s) : ∃ s, v = .str s := by
  obtain ⟨c, hc, e⟩ := List.any_eq_true.mp h
  obtain ⟨s, rfl⟩ := hs c hc
  rw [Bool.and_eq_true] at e
  exact ⟨s, of_decide_eq_true e.2⟩
theorem among_bl {v : V} (h : among v boL = true) : ∃ b, v = .bl b := by
  obtain ⟨c, hc, e⟩ := List.any_eq_true.mp h
  rw [Bool.and_eq_true] at e
  have e2 := of_decide_eq_true e.2
  have hq : c = V.bl false ∨ c = V.bl true := by simpa [boL] using hc
  rcases hq with rfl | rfl
  · exact ⟨_, e2⟩
  · exact ⟨_, e2⟩
theorem not_wrong {ws : List V} {i : Nat} (h : wrongAt ws i = false) : among (at_ ws i) (chAt i) = true ∧ clash ws (nameAt i) = false := by
  unfold wrongAt at h
  rw [Bool.or_eq_false_iff] at h
  exact ⟨by simpa using h.1, h.2⟩
theorem scFw : FnScope ["values", "value", "name", "choices"] ["values"] (defScope sFirst) := ⟨rfl, rfl, rfl, by decide +kernel, rfl, by decide +kernel, by decide +kernel⟩
theorem ok_first {f f1 f2 c0 : Addr} {fd fd1 fd2 : FuncData} (F : Fun K "_first_wrong" "_first_wrong" sFirst f fd) (T : TFw K mg c0) (GA : FnOk P w K mg base CX0 1 f1 fd1 ["value", "choices"] (spAmong K)) (gA : GFn K mg "_is_among" f1 fd1 ["value", "choices"])
    (GC : FnOk P w K mg base CX0 1 f2 fd2 ["name", "values"] (spClash K)) (gC : GFn K mg "_clashes" f2 fd2 ["name", "values"]) : FnOk P w K mg base CX0 2 f fd ["values"] (spFirst K) := by
  refine F.ok scFw (fun vs H Q E h => ?_) (fun cdv A outer s H vs Q E hr h => ?_)
  · obtain ⟨t, ws, rfl, _⟩ := h
    rfl
  · obtain ⟨t, ws, rfl, ht, hl, hv, k⟩ := h
    obtain ⟨q, r, hc0, hqr⟩ := T.chk
    refine ⟨_, (pss_cons (ps_for PassesOwn.never rfl (RZ.pi_zipA rfl T.zip (pa_cons (pv 0) (pa_cons (pe_glob (v := .ref c0) rfl T.ch rfl) pa_nil))) (pg_tup rfl (pgs_cons (pg_name (i := 1) scFw.nd rfl (Or.inl rfl)) (pgs_cons (pg_tup rfl (pgs_cons (pg_name (i := 2) scFw.nd rfl (Or.inl rfl)) (pgs_cons (pg_name (i := 3) scFw.nd rfl (Or.inl rfl)) pgs_nil))) pgs_nil))) (pss_one (ps_if (PW.pt (pw_or (pt_not (pt_val (pe_call GA (hr.mono (by decide)) rfl gA.g gA.k gA.b .nil pass0 (pa_cons (pv 1) (pa_cons (pv 3) pa_nil))))) (pw_or1 (pt_val (pe_call GC (hr.mono (by decide)) rfl gC.g gC.k gC.b .nil pass0 (pa_cons (pv 2) (pa_cons (pv 0) pa_nil))))))) (pss_one (ps_ret (pv 2))) pss_nil)))
      (pss_one (ps_ret pe_non))), ?_⟩
    refine ⟨_, rfl, t, c0, ws, _, rfl, .inr ⟨SqT.rd ht, hc0.sq, for_zipT (by rw [hl]; rfl) (fun i σ H' => (∃ v1 v2 v3, σ = [some (.ref t), v1, v2, v3]) ∧ Same H H' ∧ ∀ j, j < i → wrongAt ws j = false)
      ⟨⟨_, _, _, rfl⟩, Same.refl H, fun j hj => absurd hj (Nat.not_lt_zero j)⟩ (fun i σ H' p => ⟨SqT.rd (Rd.same ht p.2.1), hc0.sq⟩) ?_ ?_⟩⟩
    · rintro i x y T' σ H' hx hy ⟨⟨v1, v2, v3, rfl⟩, s', hw⟩ hT
      have hi : i < 8 := by
        have := (List.getElem?_eq_some_iff.mp hx).1
        omega
      obtain rfl := at_of hx
      obtain rfl : y = V.ref (q i) := by
        rw [List.getElem?_map, List.getElem?_range hi] at hy
        exact (Option.some.inj hy).symm
      obtain ⟨hq, hr'⟩ := hqr i hi
      have sT : Same H (L2.upd H' T' (.tup [at_ ws i, V.ref (q i)])) := s'.trans (Same.new hT)
      refine ⟨T', _, rfl, SqT.of upd_same, rfl, _, _, rfl, _, _, rfl, q i, _, rfl, hq.sq, rfl, _, _, rfl, _, _, rfl, rfl, rfl, ?_⟩
      refine ⟨_, rfl, _, rfl, at_ ws i, r i, boAt i, chAt i, rfl, (hv i hi).same sT, hr'.sq, chs_at i hi, ?_, fun H1 s1 => ⟨_, rfl, ?_⟩⟩
      · have : i = 0 ∨ i = 1 ∨ i = 2 ∨ i = 3 ∨ i = 4 ∨ i = 5 ∨ i = 6 ∨ i = 7 := by omega
        rcases this with rfl | rfl | rfl | rfl | rfl | rfl | rfl | rfl <;> decide
      · have s2 : Same H H1 := sT.trans s1
        cases ea : among (at_ ws i) (chAt i) with
        | false =>
          refine iteT (iteT ⟨_, rfl, ?_⟩)
          have e : firstWrong ws = some (nameAt i) := first_some hw (by unfold wrongAt; rw [ea]; rfl) hi
          rw [e] at k
          exact k _ s2
        | true =>
          refine iteF ⟨_, rfl, _, rfl, nameAt i, t, ws, rfl, Rd.same ht s2, hl, fun en => ?_, fun en => ?_, _, rfl, ?_⟩
          · have e1 : i = 1 := by
              have : i = 0 ∨ i = 1 ∨ i = 2 ∨ i = 3 ∨ i = 4 ∨ i = 5 ∨ i = 6 ∨ i = 7 := by omega
              rcases this with rfl | rfl | rfl | rfl | rfl | rfl | rfl | rfl <;> first | rfl | exact absurd en (by decide +kernel)
            subst e1
            exact ⟨among_str (not_wrong (hw 0 (by decide))).1 (by simp [chAt, chL, ptL]), among_str ea (by simp [chAt, chL, cmL])⟩
          · have e1 : i = 6 := by
              have : i = 0 ∨ i = 1 ∨ i = 2 ∨ i = 3 ∨ i = 4 ∨ i = 5 ∨ i = 6 ∨ i = 7 := by omega
              rcases this with rfl | rfl | rfl | rfl | rfl | rfl | rfl | rfl <;> first | rfl | exact absurd en (by decide +kernel)
            subst e1
            exact ⟨among_str (not_wrong (hw 1 (by decide))).1 (by simp [chAt, chL, cmL]), among_bl ea⟩
          · cases ec : clash ws (nameAt i) with
            | true =>
              refine iteT ⟨_, rfl, ?_⟩
              have e : firstWrong ws = some (nameAt i) := first_some hw (by unfold wrongAt; rw [ea, ec]; rfl) hi
              rw [e] at k
              exact k _ s2
            | false =>
              refine iteF ⟨⟨_, _, _, rfl⟩, s2, fun j hj => ?_⟩
              by_cases e : j = i
              · rw [e]
                unfold wrongAt
                rw [ea, ec]
                rfl
              · exact hw j (by omega)
    · rintro σ H' ⟨⟨v1, v2, v3, rfl⟩, s', hw⟩
      rw [hl] at hw
      have e := first_none hw
      rw [e] at k
      exact k _ s'
end
end Ra

namespace Ra
open PySem L2 RaX
abbrev sInit : Stmt := inClass (top 14) 0
abbrev sMade : Stmt := top 120
/-- a reader's making; CB: the class of the error -/
def spInit (C CB : Addr) : Sp := fun vs H Q E => ∃ (x dx : Addr) (ws : List V), vs = .ref x :: ws ∧ ws.length = 8 ∧ H x = some (.ins C dx []) ∧ (∀ i, i < 8 → ValOk H (boAt i) (at_ ws i)) ∧
  (∀ nm, firstWrong ws = some nm → ∀ d H', H' d = some (.xd [(("part" : Str), .str nm)]) → Same H H' → E (.ref CB) (some d) H') ∧
  (firstWrong ws = none → ∀ t H', H' x = some (.ins C dx [(("_parts" : Str), .ref t)]) → H' t = some (.tup ws) → (∀ b o, b ≠ x → H b = some o → H' b = some o) → Q .non H')
/-- the same, from a tuple or a list of the eight parts; C: the class -/
def spMade (K : PySem.W.Frag) (C CB : Addr) : Sp := fun vs H Q E => ∃ (t : Addr) (ws : List V), vs = [.ref t] ∧ (SqT K H t ws ∨ SqL K H t ws) ∧ ws.length = 8 ∧ (∀ i, i < 8 → ValOk H (boAt i) (at_ ws i)) ∧
  (∀ nm, firstWrong ws = some nm → ∀ d H', H' d = some (.xd [(("part" : Str), .str nm)]) → Same H H' → E (.ref CB) (some d) H') ∧
  (firstWrong ws = none → ∀ x H', RdAt C H' x ws → Same H H' → Q (.ref x) H')
/-- what the top has of the class Reader and of its error -/
structure TRd (P : Program) (K : PySem.W.Frag) (mg : Str → Option Value) (C fI CB fB : Addr) (fdI : FuncData) : Prop where
  cl : Cls K C
  nP : NoAttr K C "_parts"
  gR : mg "Reader" = some (.ref C)
  mkR : Mk K C fI
  bI : Binds K fdI ["self", "point", "comma", "rest", "must", "sign", "zeros", "blanks", "exponent"] []
  bad : BadTxt P K mg "BadPart" "part" CB fB
section
variable {P : Program} {w : World} {K : PySem.W.Frag} {mg : Str → Option Value} {base : Heap} {CX : CXT}
theorem scIn : FnScope ["self", "point", "comma", "rest", "must", "sign", "zeros", "blanks", "exponent", "values", "wrong"] ["self", "point", "comma", "rest", "must", "sign", "zeros", "blanks", "exponent"] (defScope sInit) := ⟨rfl, rfl, rfl, by decide +kernel, rfl, by decide +kernel, by decide +kernel⟩
theorem ok_init {f f1 C CB fB : Addr} {fd fd1 : FuncData} (F : Fun K "__init__" "Reader.__init__" sInit f fd) (T : TRd P K mg C f CB fB fd) (GF : FnOk P w K mg base CX0 2 f1 fd1 ["values"] (spFirst K)) (gF : GFn K mg "_first_wrong" f1 fd1 ["values"]) :
    FnOk P w K mg base (L2.CX P w) 3 f fd ["self", "point", "comma", "rest", "must", "sign", "zeros", "blanks", "exponent"] (spInit C CB) := by
  refine F.okX scIn (fun vs H Q E h => ?_) (fun cdv A outer s H vs Q E hr h => ?_)
  · obtain ⟨x, dx, ws, rfl, hl, _⟩ := h
    show ws.length + 1 = 9
    omega
  · obtain ⟨x, dx, ws, rfl, hl, hx, hv, ke, kq⟩ := h
    refine ⟨_, (pss_cons (ps_set (i := 9) scIn.nd rfl (Or.inl rfl) (pe_tup (pa_cons (pv 1) (pa_cons (pv 2) (pa_cons (pv 3) (pa_cons (pv 4) (pa_cons (pv 5) (pa_cons (pv 6) (pa_cons (pv 7) (pa_cons (pv 8) pa_nil))))))))))
      (pss_cons (ps_set (i := 10) scIn.nd rfl (Or.inl rfl) (pe_call GF (hr) rfl gF.g gF.k gF.b .nil pass0 (pa_cons (pv 9) pa_nil)))
      (pss_cons (ps_if (pt_cmpR op_notN (pv 10) pe_non (nomark _)) (pss_one (ps_raiseBad rfl T.bad hr (takes_of rfl rfl rfl rfl) (pa_cons (pv 10) pa_nil) rfl)) pss_nil)
      (pss_one (ps_fld (pv 0) (pv 9) rfl))))), ?_⟩
    obtain ⟨w0, w1, w2, w3, w4, w5, w6, w7, rfl⟩ := eight hl
    refine ⟨_, rfl, _, rfl, _, rfl, _, rfl, _, rfl, _, rfl, _, rfl, _, rfl, (by show 8 ≤ sizeLine; decide), fun t ht => ?_⟩
    refine ⟨_, rfl, t, _, rfl, .inl upd_same, rfl, fun i hi => (hv i hi).same (Same.new ht), fun H1 s1 => ?_⟩
    have s2 : Same H H1 := (Same.new ht).trans s1
    have e1 := s1 t _ upd_same
    refine ⟨_, rfl, rfl, _, rfl, ?_⟩
    cases e : firstWrong [w0, w1, w2, w3, w4, w5, w6, w7] with
    | some nm =>
      refine iteT ⟨_, rfl, _, rfl, first_vok e, fun d hd => ?_⟩
      exact ke nm e d _ upd_same (s2.trans (Same.new hd))
    | none =>
      refine iteF ⟨_, rfl, _, rfl, x, C, dx, [], rfl, s2 x _ hx, T.cl, T.nP, (by show 0 < 1000; decide), ?_⟩
      have nt : t ≠ x := fun z => by
        have z1 := s2 x _ hx
        rw [← z, e1] at z1
        cases z1
      exact kq e t _ upd_same (by rw [upd_ne nt]; exact e1) fun b o hb q => by rw [upd_ne hb]; exact s2 b o q
theorem scMa : FnScope ["_law_told_here", "_law_point", "_law_comma", "_law_rest", "_law_must", "_law_sign", "_law_zeros", "_law_blanks", "_law_exponent"] ["_law_told_here"] (defScope sMade) := ⟨rfl, rfl, rfl, by decide +kernel, rfl, by decide +kernel, by decide +kernel⟩
theorem ok_made {f fI C CB fB : Addr} {fd fdI : FuncData} (F : Fun K "_law_made" "_law_made" sMade f fd) (T : TRd P K mg C fI CB fB fdI) (GI : FnOk P w K mg base (L2.CX P w) 3 fI fdI ["self", "point", "comma", "rest", "must", "sign", "zeros", "blanks", "exponent"] (spInit C CB)) :
    FnOk P w K mg base (L2.CX P w) 5 f fd ["_law_told_here"] (spMade K C CB) := by
  refine F.okX scMa (fun vs H Q E h => ?_) (fun cdv A outer s H vs Q E hr h => ?_)
  · obtain ⟨t, ws, rfl, _⟩ := h
    rfl
  · obtain ⟨t, ws, rfl, hs, hl, hv, ke, kq⟩ := h
    refine ⟨_, (pss_cons (ps_asg (pv 0) (PGor (pg_tup rfl (pgs_cons (pg_name (i := 1) scMa.nd rfl (Or.inl rfl)) (pgs_cons (pg_name (i := 2) scMa.nd rfl (Or.inl rfl)) (pgs_cons (pg_name (i := 3) scMa.nd rfl (Or.inl rfl)) (pgs_cons (pg_name (i := 4) scMa.nd rfl (Or.inl rfl)) (pgs_cons (pg_name (i := 5) scMa.nd rfl (Or.inl rfl)) (pgs_cons (pg_name (i := 6) scMa.nd rfl (Or.inl rfl)) (pgs_cons (pg_name (i := 7) scMa.nd rfl (Or.inl rfl)) (pgs_cons (pg_name (i := 8) scMa.nd rfl (Or.inl rfl)) pgs_nil))))))))) (pg_unl rfl (pgs_cons (pg_name (i := 1) scMa.nd rfl (Or.inl rfl)) (pgs_cons (pg_name (i := 2) scMa.nd rfl (Or.inl rfl)) (pgs_cons (pg_name (i := 3) scMa.nd rfl (Or.inl rfl)) (pgs_cons (pg_name (i := 4) scMa.nd rfl (Or.inl rfl)) (pgs_cons (pg_name (i := 5) scMa.nd rfl (Or.inl rfl)) (pgs_cons (pg_name (i := 6) scMa.nd rfl (Or.inl rfl)) (pgs_cons (pg_name (i := 7) scMa.nd rfl (Or.inl rfl)) (pgs_cons (pg_name (i := 8) scMa.nd rfl (Or.inl rfl)) pgs_nil)))))))))))
      (pss_one (ps_ret (pe_make T.mkR GI hr rfl T.gR T.bI .nil (passes_call (takes_of rfl rfl rfl rfl) (fun _ _ _ _ h => h)) (pa_cons (pv 1) (pa_cons (pv 2) (pa_cons (pv 3) (pa_cons (pv 4) (pa_cons (pv 5) (pa_cons (pv 6) (pa_cons (pv 7) (pa_cons (pv 8) pa_nil)))))))))))), ?_⟩
    obtain ⟨w0, w1, w2, w3, w4, w5, w6, w7, rfl⟩ := eight hl
    refine ⟨_, rfl, ?_⟩
    have fin : ∀ (x dx : Addr), H x = none → H dx = none → dx ≠ x → spInit C CB [.ref x, w0, w1, w2, w3, w4, w5, w6, w7] (L2.upd (L2.upd H dx (.own x)) x (.ins C dx [])) (fun v H2 => v = .non ∧ Q (.ref x) H2) E := by
      intro x dx nx ndx nex
      have s0 : Same H (L2.upd (L2.upd H dx (.own x)) x (.ins C dx [])) := fun b o e => by
        rw [upd_ne (ne_of_none e nx), upd_ne (ne_of_none e ndx)]
        exact e
      refine ⟨x, dx, _, rfl, rfl, upd_same, fun i hi => (hv i hi).same s0, fun nm e d H' hd s' => ke nm e d H' hd (s0.trans s'), fun e t H' h1 h2 s' => ⟨rfl, kq e x H' ⟨dx, t, h1, .inl h2⟩ fun b o q => ?_⟩⟩
      exact s' b o (ne_of_none q nx) (s0 b o q)
    rcases hs with hs | hs
    · exact .inl ⟨t, _, rfl, hs, rfl, _, _, rfl, _, _, rfl, _, _, rfl, _, _, rfl, _, _, rfl, _, _, rfl, _, _, rfl, _, _, rfl, rfl,
        _, rfl, _, rfl, _, rfl, _, rfl, _, rfl, _, rfl, _, rfl, _, rfl, fin⟩
    · exact .inr ⟨t, _, rfl, hs, rfl, _, _, rfl, _, _, rfl, _, _, rfl, _, _, rfl, _, _, rfl, _, _, rfl, _, _, rfl, _, _, rfl, rfl,
        _, rfl, _, rfl, _, rfl, _, rfl, _, rfl, _, rfl, _, rfl, _, rfl, fin⟩
end
end Ra

namespace Ra
open PySem L2 RaX
abbrev sChk : Stmt := top 16
abbrev sPartsR : Stmt := top 15
abbrev sEq : Stmt := inClass (top 14) 1
abbrev sProp (i : Nat) : Stmt := inClass (top 14) (2 + i)
/-- an error of the package without fields: what the top has of it -/
structure ErrK (K : PySem.W.Frag) (mg : Str → Option Value) (x : Str) (C : Addr) : Prop where
  g : mg x = some (.ref C)
  k : PySem.W.keepIn K (.ref C) = true
  q : PySem.W.excIn K C [.type "ValueError", .type "Exception", .type "BaseException", .type "object"] "ValueError.__new__" = true
  b : PySem.W.subIn K (.ref C) (.type "BaseException") = some true
  t : PySem.W.typeIn K (.ref C) = some (.type "type")
structure TCk (K : PySem.W.Frag) (mg : Str → Option Value) (C CR : Addr) : Prop where
  isi : mg "isinstance" = none
  gR : mg "Reader" = some (.ref C)
  ic : C8.InsC K C
  nP : NoAttr K C "_parts"
  br : ErrK K mg "BadReader" CR
/-- a value that is no Reader -/
def NoRd (K : PySem.W.Frag) (C : Addr) (H : Hp) (v : V) : Prop := ∃ t, TyX K H v t ∧ PySem.W.kitOne K t (.ref C) = some false
def spChk (K : PySem.W.Frag) (C CR : Addr) : Sp := fun vs H Q E => ∃ v, vs = [v] ∧ (((∃ x ws, v = .ref x ∧ RdAt C H x ws) ∧ Q .non H) ∨ (NoRd K C H v ∧ E (.ref CR) none H))
def spPartsR (K : PySem.W.Frag) (C CR : Addr) : Sp := fun vs H Q E => ∃ v, vs = [v] ∧ ((∃ x ws, v = .ref x ∧ RdAt C H x ws ∧ ∀ t, Rd H t (.tup ws) → Q (.ref t) H) ∨ (NoRd K C H v ∧ E (.ref CR) none H))
/-- the own ==: with another Reader, or with what is none -/
def spEqR (K : PySem.W.Frag) (C : Addr) : Sp := fun vs H Q _ => ∃ (a : Addr) (y : V) (p : P8), vs = [.ref a, y] ∧ RdAt C H a p.vs ∧ p.Dom ∧
  ((∃ b q, y = .ref b ∧ RdAt C H b q.vs ∧ q.Dom ∧ Q (.bl (decide (p = q))) H) ∨ (NoRd K C H y ∧ Q (.bl false) H))
/-- a property: the i-th part -/
def spProp (C : Addr) (i : Nat) : Sp := fun vs H Q _ => ∃ (a : Addr) (ws : List V), vs = [.ref a] ∧ RdAt C H a ws ∧ ws.length = 8 ∧ i < 8 ∧ Q (at_ ws i) H
section
variable {P : Program} {w : World} {K : PySem.W.Frag} {mg : Str → Option Value} {base : Heap} {CX : CXT}
theorem isi_rd {C CR : Addr} (T : TCk K mg C CR) {H : Hp} {x : Addr} {ws : List V} (h : RdAt C H x ws) : TyX K H (.ref x) (.ref C) := by
  obtain ⟨dx, t, h1, _⟩ := h
  exact .base (TyOf.ins h1 T.ic.cl T.ic.ha T.ic.hn T.ic.htk T.ic.hm)
theorem scCk : FnScope ["value"] ["value"] (defScope sChk) := ⟨rfl, rfl, rfl, by decide +kernel, rfl, by decide +kernel, by decide +kernel⟩
theorem ok_chk {f C CR : Addr} {fd : FuncData} (F : Fun K "check_reader" "check_reader" sChk f fd) (T : TCk K mg C CR) : FnOk P w K mg base (L2.CX P w) 1 f fd ["value"] (spChk K C CR) := by
  refine F.okX scCk (fun vs H Q E h => ?_) (fun cdv A outer s H vs Q E hr h => ?_)
  · obtain ⟨v, rfl, _⟩ := h
    rfl
  · obtain ⟨v, rfl, h⟩ := h
    refine ⟨_, (pss_one (ps_if (pt_not (pt_val (pe_callB isiK rfl T.isi bt_isinstance (pa_cons (pv 0) (pa_cons (pe_glob (v := .ref C) rfl T.gR rfl) pa_nil))))) (pss_one (ps_raise rfl (takes_of rfl rfl rfl rfl) (pmk_own PySem.F.excBase_ValueError T.br.q T.br.g T.br.k (raises_own T.br.b T.br.t) rfl))) pss_nil)), ?_⟩
    rcases h with ⟨⟨x, ws, rfl, hx⟩, k⟩ | ⟨⟨t, y, z⟩, k⟩
    · exact ⟨_, rfl, _, _, _, _, true, rfl, .own C, isi_rd T hx, T.ic.me, _, rfl, iteF k⟩
    · exact ⟨_, rfl, _, _, _, _, false, rfl, .own C, y, z, _, rfl, iteT k⟩
theorem scPR : FnScope ["reader"] ["reader"] (defScope sPartsR) := ⟨rfl, rfl, rfl, by decide +kernel, rfl, by decide +kernel, by decide +kernel⟩
theorem ok_partsR {f f1 C CR : Addr} {fd fd1 : FuncData} (F : Fun K "parts" "parts" sPartsR f fd) (T : TCk K mg C CR) (GC : FnOk P w K mg base (L2.CX P w) 1 f1 fd1 ["value"] (spChk K C CR)) (gC : GFn K mg "check_reader" f1 fd1 ["value"]) :
    FnOk P w K mg base (L2.CX P w) 2 f fd ["reader"] (spPartsR K C CR) := by
  refine F.okX scPR (fun vs H Q E h => ?_) (fun cdv A outer s H vs Q E hr h => ?_)
  · obtain ⟨v, rfl, _⟩ := h
    rfl
  · obtain ⟨v, rfl, h⟩ := h
    refine ⟨_, (pss_cons (ps_expr (pe_call GC (hr) rfl gC.g gC.k gC.b .nil (passes_call (takes_of rfl rfl rfl rfl) (fun _ _ _ _ h => h)) (pa_cons (pv 0) pa_nil)))
      (pss_one (ps_ret (pe_fld (pv 0) rfl)))), ?_⟩
    rcases h with ⟨x, ws, rfl, hx, k⟩ | ⟨n, k⟩
    · obtain ⟨dx, t, h1, h2⟩ := id hx
      exact ⟨_, rfl, _, rfl, .inl ⟨⟨x, ws, rfl, hx⟩, _, rfl, x, C, dx, _, _, rfl, h1, T.ic.cl, T.nP, rfl, k t h2⟩⟩
    · exact ⟨_, rfl, _, rfl, .inr ⟨n, k⟩⟩
theorem scEq : FnScope ["self", "other"] ["self", "other"] (defScope sEq) := ⟨rfl, rfl, rfl, by decide +kernel, rfl, by decide +kernel, by decide +kernel⟩
theorem ok_eq {f C CR : Addr} {fd : FuncData} (F : Fun K "__eq__" "Reader.__eq__" sEq f fd) (T : TCk K mg C CR) : FnOk P w K mg base CX0 1 f fd ["self", "other"] (spEqR K C) := by
  refine F.ok scEq (fun vs H Q E h => ?_) (fun cdv A outer s H vs Q E hr h => ?_)
  · obtain ⟨a, y, p, rfl, _⟩ := h
    rfl
  · obtain ⟨a, y, p, rfl, ha, hp, h⟩ := h
    refine ⟨_, (pss_one (ps_ret (pe_and (pe_callB isiK rfl T.isi bt_isinstance (pa_cons (pv 1) (pa_cons (pe_glob (v := .ref C) rfl T.gR rfl) pa_nil))) (pe_one (pe_cmpR (op_eqD hr.units) (pe_fld (pv 0) rfl) (pe_fld (pv 1) rfl) (nomark _)))))), ?_⟩
    rcases h with ⟨b, q, rfl, hb, hq, k⟩ | ⟨⟨t, y, z⟩, k⟩
    · obtain ⟨dx, t, h1, h2⟩ := id ha
      obtain ⟨dy, u, h3, h4⟩ := id hb
      refine ⟨_, rfl, _, _, _, _, true, rfl, .own C, isi_rd T hb, T.ic.me, _, rfl, iteT ?_⟩
      refine ⟨_, rfl, a, C, dx, _, _, rfl, h1, T.ic.cl, T.nP, rfl, _, rfl, b, C, dy, _, _, rfl, h3, T.ic.cl, T.nP, rfl, _, _, .tup (SqT.rd h2) p.dp, .tup (SqT.rd h4) q.dp, p.shaped hp, q.shaped hq, ?_⟩
      rw [P8.eqv]
      exact k
    · exact ⟨_, rfl, _, _, _, _, false, rfl, .own C, y, z, _, rfl, iteF k⟩
theorem ok_prop {f C CR : Addr} {fd : FuncData} {x q : Str} {st : Stmt} {i : Nat} {p1 p2 p3 p4 p5 : Pos} (F : Fun K x q st f fd) (S : FnScope ["self"] ["self"] (defScope st))
    (hb : defBody st = [.Return (some (.Subscript (.Attribute (.Name "self" p1) "_parts" p2) (.Constant (.int (i : Nat)) 0 p3) p4)) p5]) (T : TCk K mg C CR) : FnOk P w K mg base CX0 1 f fd ["self"] (spProp C i) := by
  refine F.ok S (fun vs H Q E h => ?_) (fun cdv A outer s H vs Q E hr h => ?_)
  · obtain ⟨a, ws, rfl, _⟩ := h
    rfl
  · obtain ⟨a, ws, rfl, ⟨dx, t, h1, h2⟩, hl, hi, k⟩ := h
    rw [hb]
    refine ⟨_, pss_one (ps_ret (pe_ix ix_tup (pe_fld (pe_var (i := 0) rfl ((S.par "self" (List.Mem.head _)).elim (fun z => .inl z) (fun z => .inr (.inl z)))) rfl) pe_int (fun _ _ => rfl))), ?_⟩
    exact ⟨_, rfl, a, C, dx, _, _, rfl, h1, T.ic.cl, T.nP, rfl, t, ws, _, _, rfl, rfl, SqT.rd h2, atI_at (by omega), k⟩
end
end Ra

/-! RaTry: several except clauses, each with or without a name; a call of what an expression gives. -/
namespace Ra
open PySem PySem.Spec PyProof.Rows L2 RaX
/-- a clause: its class, the slot of its name, its suite's reading -/
structure Clause where
  c : Value
  i : Option Nat
  ts : Addr → Value → Option Addr → TS
def goneD (i : Nat) (D : Ends) : Ends := { nx := fun u G => D.nx (u.set i none) G, rt := D.rt, bk := fun u G => D.bk (u.set i none) G, ct := fun u G => D.ct (u.set i none) G }
def Clause.go (q : Clause) (a : Addr) (k : Value) (d : Option Addr) (D : Ends) (u : L2.St) (G : Hp) : Prop := match q.i with
  | none => q.ts a k d D u G
  | some i => q.ts a k d (goneD i D) (u.set i (some (.ref a))) G
def wCl (K : PySem.W.Frag) (Wout : WX) (D : Ends) : List Clause → WX
  | [] => Wout
  | q :: r => fun k d u G => ∃ b, PySem.W.exmOne K k q.c = some b ∧ (b = true → ∀ a, G a = none → q.go a k d D u G) ∧ (b = false → wCl K Wout D r k d u G)
/-- the suite of a clause -/
abbrev SuiteOk (X : Cx) (sts : List Stmt) (ts : Addr → Value → Option Addr → TS) : Prop :=
  ∀ (a : Addr) (oe : Obj) (k : Value) (d : Option Addr) (pn : List (Addr × Obj)), Zc k d oe → (∃ vs, oe.data = .fields vs) → PSs (X.suite a ((a, oe) :: pn)) sts (ts a k d)
inductive ClsOk (X : Cx) : List ExceptHandler → List Clause → Prop
  | nil : ClsOk X [] []
  | bare {x : Str} {c : Value} {ts : Addr → Value → Option Addr → TS} {s0 : Stmt} {ss : List Stmt} {p1 p2 : Pos} {hs : List ExceptHandler} {l : List Clause} (nm : Names X x c) (su : SuiteOk X (s0 :: ss) ts) (r : ClsOk X hs l) :
      ClsOk X (.ExceptHandler (some (.Name x p1)) none (s0 :: ss) p2 :: hs) (⟨c, none, ts⟩ :: l)
  | named {x n : Str} {c : Value} {i : Nat} {ts : Addr → Value → Option Addr → TS} {s0 : Stmt} {ss : List Stmt} {p1 p2 : Pos} {hs : List ExceptHandler} {l : List Clause} (nm : Names X x c) (hi : X.N[i]? = some n) (hl : X.env.kindOf n = some .local) (su : SuiteOk X (s0 :: ss) ts) (r : ClsOk X hs l) :
      ClsOk X (.ExceptHandler (some (.Name x p1)) (some n) (s0 :: ss) p2 :: hs) (⟨c, some i, ts⟩ :: l)
section
variable {X : Cx} {pins : List (Addr × Obj)} {D : Ends} {Wout : WX} {a : Addr} {B : Heap} {u : L2.St} {G : Hp} {k : Value} {d : Option Addr} {sI s : Shared}
/-- one exception at the clauses: it was looked at, and stands -/
theorem at_clauses (hsk : X.stack = X.env :: X.outer) (hfr : X.env.frame = some X.env.locals) (hN : X.N.Nodup) (tk : Takes X Wout) (I0 : Inv X pins u G sI)
    (grd : ∀ b o, sI.heap.get? b = some o → b ∉ frs X.stack → B.get? b = some o) (na : G a = none) (up : sI.heap.UpToSlots s.heap) (os : s.os = sI.os) (ag : AllBare s.gens)
    (fl : HandSPX.FlyingZ B (X.env :: X.outer) a (Zc k d) s.heap) :
    ∀ {hs : List ExceptHandler} {l : List Clause}, ClsOk X hs l → wCl X.K Wout D l k d u G → wpAny (model X.prog X.w) X.A (handleBy (.ref a) X.env hs) (SP X pins D) X.xe s := by
  have I1 : Inv X pins u G s := I0.landed grd fl.1 up os ag
  obtain ⟨oe, vs, e1, z1, d1⟩ := fl.there
  have away : a ∉ frs (X.env :: X.outer) := fun hm => by
    obtain ⟨_, o', e', z⟩ := fl.2.2.1.mem hm
    rw [e1] at e'
    cases e'
    exact z _ d1
  have aL : a ≠ X.env.locals := fun z => away (List.mem_filterMap.mpr ⟨X.env, List.mem_cons_self, by rw [hfr, z]⟩)
  have aF : a ∉ X.fs := fun hm => by
    obtain ⟨e, he, q⟩ := List.mem_filterMap.mp hm
    exact away (List.mem_filterMap.mpr ⟨e, List.mem_cons_of_mem _ he, q⟩)
  have J1 := I1.suite e1 d1 na aL aF
  have named : ∀ {x : Str} {c : Value} {p1 : Pos} {Q E : Value → Shared → Prop}, Names X x c → Q c s → wpAny (model X.prog X.w) (X.A.mark (some (.ref a))) (eval (.Name x p1) X.env) Q E s := fun nm q => by
    obtain ⟨g, db, m | ⟨m, v, nn⟩⟩ := nm
    · exact ld_glob (X := X.suite a ((a, oe) :: (X.pn ++ pins))) J1 g m q db
    · exact ld_blt (X := X.suite a ((a, oe) :: (X.pn ++ pins))) J1 g m v q nn db
  have looks : PySem.W.Looks (model X.prog X.w) s.heap (typeOf (.ref a)) k := fun _ _ _ _ kk q => wpAny_typeOf_ref (kk _ _ e1) (by rw [z1.1]; exact q)
  have again : ∀ {Q : Unit → Shared → Prop} {E : Value → Shared → Prop} {A : Around}, (∀ h2 oe2, Inv X pins u G { s with heap := h2 } → Inv (X.suite a ((a, oe2) :: (X.pn ++ pins))) [] u G { s with heap := h2 } → Zc k d oe2 → (∃ vs, oe2.data = .fields vs) → Q () { s with heap := h2 }) →
      wpAny (model X.prog X.w) A (setFlight (.ref a) none) Q E s := fun q => HandSPX.lands_againZ fl fun h2 fl2 up2 => by
    have I2 : Inv X pins u G { s with heap := h2 } := I0.landed grd fl2.1 (up.trans up2) os ag
    obtain ⟨oe2, vs2, e2, z2, d2⟩ := fl2.there
    exact q h2 oe2 I2 (I2.suite e2 d2 na aL aF) z2 ⟨_, d2⟩
  intro hs l hk
  induction hk with
  | nil =>
    intro w
    refine wpAny_handleBy_nil ?_
    obtain ⟨_, _, _, o3, v3, T3, _, _, e3, _, d3, f3, _⟩ := id fl
    unfold PySem.passOn
    refine wpAny_bind (wpAny_field e3 d3 f3 ?_)
    rw [if_neg (show ¬ ((Value.ref T3 == Value.none) = true) from by simp)]
    have out : wpAny (model X.prog X.w) X.A (setFlight (.ref a) X.env.frame) (fun _ s4 => wpAny (model X.prog X.w) X.A (throw (.ref a) : Sem Flow) (SP X pins D) X.xe s4) X.xe s := by
      rw [hfr]
      exact HandSPX.setFlight_upZ fl fun h4 q4 up4 => wpAny_throw (tk _ _ ⟨a, B, sI, pins, u, G, k, d, rfl, I0, grd, up.trans up4, .inr (.inr (by rw [hsk]; exact q4)), na, os, ag, w⟩)
    first
      | exact wpAny_bind (wpAny_pure (wpAny_bind out))
      | exact wpAny_bind out
  | @bare x c ts s0 ss p1 p2 hs2 l2 nm su r ih =>
    intro w
    obtain ⟨b, hb, yes, no⟩ := w
    refine wpAny_handleBy_cons (codeAny_handlers_test (named nm ((PySem.W.exm_one (M := model X.prog X.w) I1.kIn looks hb).here ?_))) (by intro q; cases q)
    cases b with
    | false => exact ih (no rfl)
    | true =>
      refine codeAny_handlers_suite (again fun h2 oe2 I2 J2 z2 d2 => ?_)
      refine wpAny_mono ((su a oe2 k d (X.pn ++ pins) z2 d2).run [] _ _ G _ J2 (yes rfl a na)) (fun f s6 hsp => ?_) (fun _ _ z => False.elim z)
      cases f with
      | ret u6 =>
        obtain ⟨v6, σ6, H6, S6, r6, q6⟩ := hsp
        exact ⟨_, _, _, S6.unsuite I0.ok, r6, q6⟩
      | next => obtain ⟨σ6, H6, S6, q6⟩ := hsp; exact ⟨_, _, S6.unsuite I0.ok, q6⟩
      | brk => obtain ⟨σ6, H6, S6, q6⟩ := hsp; exact ⟨_, _, S6.unsuite I0.ok, q6⟩
      | cont => obtain ⟨σ6, H6, S6, q6⟩ := hsp; exact ⟨_, _, S6.unsuite I0.ok, q6⟩
  | @named x n c i ts s0 ss p1 p2 hs2 l2 nm hi hl su r ih =>
    intro w
    obtain ⟨b, hb, yes, no⟩ := w
    refine wpAny_handleBy_cons (codeAny_handlers_test (named nm ((PySem.W.exm_one (M := model X.prog X.w) I1.kIn looks hb).here ?_))) (by intro q; cases q)
    cases b with
    | false => exact ih (no rfl)
    | true =>
      refine codeAny_handlers_suite_as (again fun h2 oe2 I2 J2 z2 d2 => ?_)
      refine store_ok (X := X.suite a ((a, oe2) :: (X.pn ++ pins))) (v := .ref a) J2 hN hi (.inl hl) rfl (fun s5 J5 => ?_) (.inr hl)
      refine wpAny_mono ((su a oe2 k d (X.pn ++ pins) z2 d2).run [] s5 _ G _ J5 (yes rfl a na)) (fun f s6 hsp => ?_) (fun _ _ z => False.elim z)
      have fin : ∀ {σ6 : L2.St} {H6 : Hp} {Q : Shared → Prop}, Inv (X.suite a ((a, oe2) :: (X.pn ++ pins))) [] σ6 H6 s6 → (∀ s7, Inv X pins (σ6.set i none) H6 s7 → Q s7) →
          wpAny (model X.prog X.w) X.A (do bindName X.env n .none; unbindBehindTheSuite X.env n p2) (fun _ s7 => Q s7) X.xe s6 := fun S6 hq => gone_ok (S6.unsuite I0.ok) hN hi hl hq
      cases f with
      | ret u6 =>
        obtain ⟨v6, σ6, H6, S6, r6, q6⟩ := hsp
        exact fin S6 fun s7 J7 => ⟨_, _, _, J7, r6, q6⟩
      | next => obtain ⟨σ6, H6, S6, q6⟩ := hsp; exact fin S6 fun s7 J7 => ⟨_, _, J7, q6⟩
      | brk => obtain ⟨σ6, H6, S6, q6⟩ := hsp; exact fin S6 fun s7 J7 => ⟨_, _, J7, q6⟩
      | cont => obtain ⟨σ6, H6, S6, q6⟩ := hsp; exact fin S6 fun s7 J7 => ⟨_, _, J7, q6⟩
/-- try: body, except A [as n]: .., except B [as m]: .. -/
theorem ps_tryC {body : List Stmt} {h0 : ExceptHandler} {hs : List ExceptHandler} {l : List Clause} {pos : Pos} {tb : WX → TS} (hsk : X.stack = X.env :: X.outer) (hfr : X.env.frame = some X.env.locals) (hN : X.N.Nodup) (tk : Takes X Wout)
    (hb : ∀ (W : WX) (pn : List (Addr × Obj)) (xe : Value → Shared → Prop), Takes (X.tr pn xe) W → PassesOwn (model X.prog X.w) X.A X.env xe → PSs (X.tr pn xe) body (tb W))
    (hc : ClsOk X (h0 :: hs) l) : PS X (.Try body (h0 :: hs) [] [] pos) (fun D σ H => tb (wCl X.K Wout D l) D σ H) := by
  refine ⟨fun pins s σ H D I h => ?_⟩
  have ok := I.ok
  refine wpAny_Try_except (wpAny_mono ((hb (wCl X.K Wout D l) (X.pn ++ pins) (fun e t1 => wpAny (model X.prog X.w) X.A (noteFrame e X.env) (fun _ t2 => wpAny (model X.prog X.w) X.A (setFlight e none)
    (fun _ t3 => wpAny (model X.prog X.w) X.A (handleBy e X.env (h0 :: hs)) (SP X pins D) X.xe t3) X.xe t2) X.xe t1) (fun v t xx => ?_) PassesOwn.looking).run [] s σ H D (I.toTry _) h) (fun f s1 hsp => ?_) (fun _ _ he => he))
  · obtain ⟨a, B, sI, pins', σ', H', k, d, rfl, J', grd, up, sky, na, os, ag, w⟩ := xx
    rw [show (X.tr (X.pn ++ pins) _).stack = X.stack from rfl, hsk] at sky
    refine Sky.land Zc.steady (ok.frames.trans (by rw [hsk])) hfr sky fun h3 fl3 up3 => ?_
    exact at_clauses (s := { t with heap := h3 }) hsk hfr hN tk (J'.ofTry ok) grd na (up.trans up3) os ag fl3 hc w
  · cases f with
    | ret v =>
      obtain ⟨v6, σ6, H6, J6, r6, q6⟩ := hsp
      exact ⟨v6, σ6, H6, J6.ofTry ok, r6, q6⟩
    | next => obtain ⟨σ6, H6, J6, q6⟩ := hsp; exact wpAny_execs_nil ⟨σ6, H6, J6.ofTry ok, q6⟩
    | brk => obtain ⟨σ6, H6, J6, q6⟩ := hsp; exact ⟨σ6, H6, J6.ofTry ok, q6⟩
    | cont => obtain ⟨σ6, H6, J6, q6⟩ := hsp; exact ⟨σ6, H6, J6.ofTry ok, q6⟩
end
/-! ### a call of what an expression gives -/
/-- the def at f keeps sp -/
def Keeps (P : Program) (w : World) (K : PySem.W.Frag) (mg : Str → Option Value) (base : Heap) (CX : CXT) (n : Nat) (f : Addr) (sp : Sp) : Prop :=
  ∃ (j : Nat) (fd : FuncData) (ps : List Str), j ≤ n ∧ FnOk P w K mg base CX j f fd ps sp ∧ PySem.W.keepIn K (.ref f) = true ∧ Binds K fd ps []
def tCallE (P : Program) (w : World) (K : PySem.W.Frag) (mg : Str → Option Value) (base : Heap) (CX : CXT) (n : Nat) (E : L2.St → XK) (t0 : TE) (t : TA) : TE := fun σ H Q => t0 σ H fun v H1 => ∃ f sp, v = .ref f ∧ Keeps P w K mg base CX n f sp ∧ t σ H1 fun vs H2 => sp vs H2 Q (E σ)
theorem pe_callE {X : Cx} {CX : CXT} {n : Nat} {E : L2.St → XK} {e0 e : Expr} {es : List Expr} {t0 : TE} {t : TA} {pos : Pos} (h0 : PE X e0 t0) (hr : Room n X.A) (hx : ∀ σ, PassesAt CX X σ (E σ)) (ha : PA X (e :: es) t)
    (hc : eval (.Call e0 (e :: es) [] pos) X.env = (do callWith pos (← eval e0 X.env) [] (backTo pos (starEach (e :: es) X.env)) (backToKw pos (keywordEach [] X.env))) := by rfl)
    (he : starEach (e :: es) X.env = (false, eval e X.env) :: starEach es X.env := by rfl) (hpl : (backTo pos (starEach es X.env)).any (·.1) = false := by rfl) : PE X (.Call e0 (e :: es) [] pos) (tCallE X.prog X.w X.K X.mg X.base CX n E t0 t) := by
  refine ⟨fun pins s σ H Q I h => ?_⟩
  refine Call_ (thn (h0.run pins s σ H _ I h) fun v s1 ⟨y, H1, I1, r1, f, sp, ey, ⟨j, fd, ps, hj, F, hk, hb⟩, q1⟩ => ?_) hc
  subst ey
  cases r1
  refine PySem.W.callWith_K (h₀ := X.base) I.ok.mod.kin hk (thn (ha.run pos pins s1 σ H1 _ I1 q1) fun us s2 ⟨vs, H2, I2, r2, q2⟩ => ⟨I2.kIn, ?_⟩) he hpl
  exact run_fnS F (hr.mono hj) hb (hx σ) I2 r2 q2
end Ra

/-! RaEnum: enumerate over a text; x in a written tuple of data. -/
namespace Ra
open PySem PySem.Spec PyProof.Rows L2 RaX
/-- the signs of a text, each behind its place in a new pair -/
def Itse (x : Str) : It :=
  ⟨fun i _ => i < x.cps.size, fun i H v H' => ∃ T c, v = .ref T ∧ H T = none ∧ H' = upd H T (.tup [.int (i : Nat), .str ⟨#[c]⟩]) ∧ x.cps[i]? = some c, fun i _ => i = x.cps.size⟩
theorem turn_enumS {P : Program} {w : World} {K : PySem.W.Frag} {elts : List Expr} {kk : Nat} {tpos : Pos} (x : Str) (t : Tok) (ty : String) (hty : ty = "str_ascii_iterator" ∨ ty = "str_iterator") (e it : Addr) :
    Turn P w K (.Tuple elts kk tpos) (Itse x) [e, it] e (fun i h => (∃ old, IsEnum h e it ((i : Nat) : Int) old) ∧ h.IsStrIter it ty x t i ∧ e ≠ it) where
  mem := by simp
  obj := fun i h st b hb => by
    obtain ⟨⟨old, he⟩, ⟨o, ho, hc, hd⟩, _⟩ := st
    have e' : b = e ∨ b = it := by simpa using hb
    rcases e' with z | z
    · rw [z]; exact ⟨_, he, fun v q => nomatch q⟩
    · rw [z]; exact ⟨o, ho, fun v q => by rw [hd] at q; cases q⟩
  keep := fun i h h' st k => let ⟨⟨old, he⟩, ⟨o, ho, r⟩, hne⟩ := st; ⟨⟨old, k e (by simp) _ he⟩, ⟨o, k it (by simp) o ho, r⟩, hne⟩
  item := by
    intro X hP hw hK hc i pins s σ H E I hf st hg
    subst hP hw hK
    obtain ⟨⟨old, he⟩, hit, hne⟩ := st
    have hel : e < s.heap.objs.size := Heap.lt_size he
    have hil : it < s.heap.objs.size := by obtain ⟨_, q, _⟩ := hit; exact Heap.lt_size q
    have D : Draws X.prog X.w X.A.in1 it [it] x.cps.size (fun i v => ∃ c u, x.cps[i]? = some c ∧ v = .str ⟨#[c]⟩ u) (fun i h => h.IsStrIter it ty x t i) := by
      rcases hty with z | z
      · rw [z]; exact Draws.strAscii (A := X.A.in1) (I.ok.hd hc) it x t
      · rw [z]; exact Draws.strWide (A := X.A.in1) (I.ok.hd hc) it x t
    refine wpAny_pyNext_enum_itemD D he hit hg hne (by simpa using hne) fun v h' tk hv ho hit' hT hsz hk => ?_
    obtain ⟨c, u, hcx, rfl⟩ := hv
    refine ⟨_, rfl, wpAny_letOwnedTupleGo_enum (s := { s with heap := h', toks := tk + 1 }) ho fun h'' he' sb => ?_⟩
    have hT2 : h''.get? s.heap.objs.size = some { cls := .type "tuple", data := .seq #[.int i tk, .str ⟨#[c]⟩ u] } := (sb.2 _ (Nat.ne_of_gt hel)).trans hT
    have new : ObjOk X.prog X.w (upd H s.heap.objs.size (.tup [.int (i : Nat), .str ⟨#[c]⟩])) h'' s.heap.objs.size (.tup [.int (i : Nat), .str ⟨#[c]⟩]) :=
      ⟨by show 2 ≤ sizeLine; decide, [.int i tk, .str ⟨#[c]⟩ u], .cons ⟨_, rfl⟩ (.cons ⟨u, rfl⟩ .nil), ⟨_, hT2, rfl, _, rfl⟩⟩
    have I1 : Inv X pins σ (upd H s.heap.objs.size (.tup [.int (i : Nat), .str ⟨#[c]⟩])) { s with heap := h'', toks := tk + 1 } :=
      I.turnedNew (ch := [e, it]) (fun b ob hb q => (sb.2 b (fun z => hb (by simp [z]))).trans (hk b ob (fun z => hb (by simp [z])) (fun z => hb (by simp [z])) q)) hf (Nat.le_refl _) new
    refine ⟨.ref s.heap.objs.size, _, I1, rfl, ⟨_, c, rfl, I.hok.fresh (Nat.le_refl _), rfl, hcx⟩, ⟨⟨.str ⟨#[c]⟩ u, ?_⟩, ?_, hne⟩, fun b hb => ?_⟩
    · have e1 : ((i + 1 : Nat) : Int) = (i : Int) + 1 := by omega
      rw [e1]; exact he'
    · obtain ⟨o, ho', r⟩ := hit'
      exact ⟨o, (sb.2 it (Ne.symm hne)).trans ho', r⟩
    · have hb' : b < s.heap.objs.size := by
        have e' : b = e ∨ b = it := by simpa using hb
        rcases e' with z | z
        · rw [z]; exact hel
        · rw [z]; exact hil
      rw [upd_ne (Nat.ne_of_lt hb')]
      exact (hf b hb).1
  done := by
    intro X hP hw hK hc i pins s σ H E I hf st hg
    subst hP hw hK
    obtain ⟨⟨old, he⟩, hit, hne⟩ := st
    obtain ⟨f0, f1, f2, f3, f4, f5⟩ := hf it (by simp)
    have D : Draws X.prog X.w X.A.in1 it [it] x.cps.size (fun i v => ∃ c u, x.cps[i]? = some c ∧ v = .str ⟨#[c]⟩ u) (fun i h => h.IsStrIter it ty x t i) := by
      rcases hty with z | z
      · rw [z]; exact Draws.strAscii (A := X.A.in1) (I.ok.hd hc) it x t
      · rw [z]; exact Draws.strWide (A := X.A.in1) (I.ok.hd hc) it x t
    have hg' : i = x.cps.size := hg
    rw [hg'] at hit
    exact wpAny_pyNext_enum_endD D he hit fun h' eb => ⟨rfl, I.turned (t' := s.toks) (fun b o hb q => eb b o hb q) f0 f1 f3 f4 f5⟩
  self := fun A i s Q E st h => let ⟨⟨_, he⟩, _⟩ := st; wpAny_pyIter_enum he h
def iEnumS (ta : TA) : TI := fun σ H R => ta σ H fun vs H1 => ∃ x, vs = [.str x] ∧ R (Itse x) H1
theorem pi_enumS {X : Cx} {e : Expr} {ta : TA} {p pos tpos : Pos} {elts : List Expr} {kk : Nat} (hg : Gl X "enumerate") (hm : X.mg "enumerate" = none) (ha : PA X [e] ta) (hs : starEach [e] X.env = [(false, eval e X.env)] := by rfl) :
    PI X (.Tuple elts kk tpos) (.Call (.Name "enumerate" p) [e] [] pos) (iEnumS ta) := by
  refine ⟨fun pins s σ H R I h => ?_⟩
  refine Call_ (ld_blt I hg hm bt_enumerate (PyProof.Rows.callWith_type1 (thn (ha.run pos pins s σ H _ I h) fun us s1 ⟨vs, H1, I1, r1, q1⟩ => ?_) hs rfl))
  obtain ⟨x, ex, q⟩ := q1
  subst ex
  cases r1 with
  | cons r rr =>
    cases rr
    obtain ⟨t, rfl⟩ := r
    refine call_enumerate_str fun h' he hit hsz hk => wpAny_pyIter_enum he ?_
    have I2 : Inv X pins σ H1 { s1 with heap := h' } := I1.kept (t' := s1.toks) hk
    have hty : strIterType x = "str_ascii_iterator" ∨ strIterType x = "str_iterator" := by
      unfold strIterType
      split
      · exact .inl rfl
      · exact .inr rfl
    refine ⟨s1.heap.objs.size + 1, [s1.heap.objs.size + 1, s1.heap.objs.size], _, _, H1, rfl, I2, turn_enumS x t _ hty (s1.heap.objs.size + 1) s1.heap.objs.size, ⟨⟨.none, he⟩, hit, Nat.succ_ne_self _⟩, fun b hb => ?_, q⟩
    have e' : b = s1.heap.objs.size + 1 ∨ b = s1.heap.objs.size := by simpa using hb
    have hle : s1.heap.objs.size ≤ b := by
      rcases e' with z | z
      · rw [z]; exact Nat.le_add_right _ _
      · rw [z]; exact Nat.le_refl _
    exact I1.fpOk hle (I1.hok.fresh hle)
/-- the loop over it: Pv i holds ahead of the i-th sign -/
theorem for_enumS {x : Str} {g : TG} {tb : TS} {D : Ends} {σ : L2.St} {H : Hp} (Pv : Nat → L2.St → Hp → Prop) (h0 : Pv 0 σ H)
    (hs : ∀ (i c : Nat) (T : Addr) (σ : L2.St) (H : Hp), x.cps[i]? = some c → Pv i σ H → H T = none → g (.ref T) σ (upd H T (.tup [.int (i : Nat), .str ⟨#[c]⟩])) fun σ2 H2 => tb { D with nx := Pv (i + 1), ct := Pv (i + 1), bk := D.nx } σ2 H2)
    (hd : ∀ σ H, Pv x.cps.size σ H → D.nx σ H) :
    ∃ W : Nat → Nat → L2.St → Hp → Prop, (∃ m, W 0 m σ H) ∧ ∀ i m σ H, W i m σ H →
      ((Itse x).stop i H ∧ D.nx σ H) ∨ ((Itse x).go i H ∧ ∃ N : L2.St → Hp → Prop, (∀ σ' H', N σ' H' → ∃ m', m' < m ∧ W (i + 1) m' σ' H') ∧
        ∀ v H', (Itse x).yld i H v H' → g v σ H' fun σ2 H2 => tb { D with nx := N, ct := N, bk := D.nx } σ2 H2) := by
  refine ⟨fun i m σ H => m = x.cps.size - i ∧ i ≤ x.cps.size ∧ Pv i σ H, ⟨_, rfl, Nat.zero_le _, h0⟩, fun i m σ H w => ?_⟩
  obtain ⟨em, hi, p⟩ := w
  rcases Nat.lt_or_ge i x.cps.size with hlt | hge
  · refine .inr ⟨hlt, fun σ' H' => Pv (i + 1) σ' H', fun σ' H' z => ⟨x.cps.size - (i + 1), by omega, rfl, hlt, z⟩, fun v H' z => ?_⟩
    obtain ⟨T, c, rfl, hT, rfl, hc⟩ := z
    exact hs i c T σ H hc p hT
  · have e : i = x.cps.size := by omega
    subst e
    exact .inl ⟨rfl, hd σ H p⟩
section
variable {X : Cx}
/-- x in a tuple of data -/
def rInT (K : PySem.W.Frag) : R2 := fun x y H Q => ∃ d ds, Dp K H x d ∧ Dp K H y (.tuple ds) ∧ SeqAt.shaped d = true ∧ SeqAt.shaped (.tuple ds) = true ∧ Q (.bl (ds.any fun z => PyData.eqv z d)) H
def rNotInT (K : PySem.W.Frag) : R2 := fun x y H Q => ∃ d ds, Dp K H x d ∧ Dp K H y (.tuple ds) ∧ SeqAt.shaped d = true ∧ SeqAt.shaped (.tuple ds) = true ∧ Q (.bl (!ds.any fun z => PyData.eqv z d)) H
theorem op_inT (hu : X.A.units + 65 < cLine) : OpR X (compareOp .In) (rInT X.K) := by
  intro pins s σ H x y v u Q I rx ry h
  obtain ⟨d, ds, hd, he, sd, se, q⟩ := h
  obtain ⟨as, r1⟩ := Dp.reads I d x v hd rx
  obtain ⟨bs, r2⟩ := Dp.reads I (.tuple ds) y u he ry
  exact SeqAt.in_tuple_reads r2 r1 (SeqAt.canLay_of_shaped se) (SeqAt.canLay_of_shaped sd) (room_in_shaped sd hu) ⟨.bl _, H, I, rfl, q⟩
theorem op_notInT (hu : X.A.units + 65 < cLine) : OpR X (compareOp .NotIn) (rNotInT X.K) := by
  intro pins s σ H x y v u Q I rx ry h
  obtain ⟨d, ds, hd, he, sd, se, q⟩ := h
  obtain ⟨as, r1⟩ := Dp.reads I d x v hd rx
  obtain ⟨bs, r2⟩ := Dp.reads I (.tuple ds) y u he ry
  exact SeqAt.notIn_tuple_reads r2 r1 (SeqAt.canLay_of_shaped se) (SeqAt.canLay_of_shaped sd) (room_in_shaped sd hu) ⟨.bl _, H, I, rfl, q⟩
end
end Ra

/-! RaMath: how a reader goes through a text, and the form of the texts that it takes; plain lists of codes. -/
namespace RaM
/-- a reader: its point, its comma, and so on -/
structure G where
  pt : Option Nat
  cm : Option Nat
  rest : Nat
  must : Bool
  ahead : Bool
  behind : Bool
  zeros : Bool
  blanks : Bool
  expo : Bool
def isFig (c : Nat) : Bool := decide (48 ≤ c) && decide (c ≤ 57)
structure G.Ok (g : G) : Prop where
  pt : ∀ c, g.pt = some c → c = 46 ∨ c = 44
  cm : ∀ c, g.cm = some c → c = 46 ∨ c = 44 ∨ c = 39 ∨ c = 32
  ne : ∀ c, g.pt = some c → g.cm ≠ some c
  nb : g.blanks = true → g.cm ≠ some 32
  rest : g.rest = 2 ∨ g.rest = 3
  one : ¬ (g.ahead = true ∧ g.behind = true)
/-! ### the machine -/
inductive S where
  | start | minus | nought | plain (n : Nat) | group (n : Nat) | point | frac | letter | less | power (n : Nat) | turned | fin
  deriving DecidableEq
def lack : S → Nat
  | .group n => 3 - n
  | .start | .minus | .point | .letter | .less => 1
  | _ => 0
def wholeEnds : S → Bool
  | .nought | .plain _ | .group 3 => true
  | _ => false
def stepFig (g : G) (s : S) (c : Nat) : Option S := match s with
  | .start | .minus => some (if c = 48 ∧ g.zeros = false then .nought else .plain 1)
  | .plain n => if n = 3 ∧ g.must = true ∧ g.cm ≠ none then none else some (.plain (min (n + 1) 4))
  | .group n => if n < 3 then some (.group (n + 1)) else none
  | .point | .frac => some .frac
  | .letter | .less => some (.power (if c = 48 ∧ g.zeros = false then 2 else 1))
  | .power n => if n = 1 then some (.power 2) else none
  | _ => none
def stepComma (g : G) (s : S) : Option S := match s with
  | .plain n => if n ≤ g.rest then some (.group 0) else none
  | .group n => if n = g.rest then some (.group 0) else none
  | _ => none
def stepMinus (g : G) (s : S) : Option S := match s with
  | .start => if g.ahead then some .minus else none
  | .letter => some .less
  | .turned | .fin => none
  | s => if g.behind = true ∧ lack s = 0 then some .turned else none
def stepLetter (g : G) (s : S) : Option S := if g.expo = true ∧ (wholeEnds s = true ∨ s = .frac) then some .letter else none
def stepBlank (s : S) : Option S := if s = .start then some .start else if lack s = 0 then some .fin else none
def step (g : G) (s : S) (c : Nat) : Option S :=
  if isFig c then stepFig g s c
  else if c = 45 then stepMinus g s
  else if c = 101 then stepLetter g s
  else if c = 32 ∧ g.blanks = true then stepBlank s
  else if g.pt = some c then (if wholeEnds s then some .point else none)
  else if g.cm = some c then stepComma g s
  else none
def run (g : G) : S → List Nat → Option S
  | s, [] => some s
  | s, c :: t => (step g s c).bind fun s' => run g s' t
def accepts (g : G) (t : List Nat) : Prop := ∃ s, run g .start t = some s ∧ lack s = 0
theorem run_app (g : G) : ∀ (a b : List Nat) (s : S), run g s (a ++ b) = (run g s a).bind fun s' => run g s' b
  | [], _, _ => rfl
  | c :: a, b, s => by
    show ((step g s c).bind fun s' => run g s' (a ++ b)) = ((step g s c).bind fun s' => run g s' a).bind fun s' => run g s' b
    cases step g s c with
    | none => rfl
    | some s' => exact run_app g a b s'
/-! ### the form of a text -/
def figs (l : List Nat) : Prop := ∀ c ∈ l, isFig c = true
/-- no nought ahead, where it may not be -/
def lead (g : G) (l : List Nat) : Prop := g.zeros = true ∨ l.head? ≠ some 48
def glue (c : Nat) : List (List Nat) → List Nat
  | [] => []
  | x :: r => c :: x ++ glue c r
/-- a whole W with the figures w -/
inductive Whole (g : G) : List Nat → List Nat → Prop where
  | plain {w : List Nat} (f : figs w) (n : w ≠ []) (l : w = [48] ∨ lead g w) (m : g.must = true → g.cm ≠ none → w.length ≤ 3) : Whole g w w
  | groups {c : Nat} {h l : List Nat} {gs : List (List Nat)} (hc : g.cm = some c) (fh : figs h) (nh : h ≠ []) (lh : h.length ≤ g.rest) (ld : lead g h) (fg : ∀ x ∈ gs, figs x ∧ x.length = g.rest) (fl : figs l) (ll : l.length = 3) :
      Whole g (h ++ glue c gs ++ c :: l) (h ++ gs.flatten ++ l)
inductive Frac (g : G) : List Nat → List Nat → Prop where
  | none : Frac g [] []
  | some {c : Nat} {f : List Nat} (hc : g.pt = some c) (ff : figs f) (nf : f ≠ []) : Frac g (c :: f) f
/-- an exponent: its text, whether it is below nought, its figures -/
inductive Expo (g : G) : List Nat → Bool → List Nat → Prop where
  | none : Expo g [] false []
  | some {b : Bool} {x : List Nat} (he : g.expo = true) (fx : figs x) (nx : x ≠ []) (lx : x.length ≤ 2) (ld : x.length = 2 → lead g x) : Expo g (101 :: ((if b then [45] else []) ++ x)) b x
def bl (n : Nat) : List Nat := List.replicate n 32
/-- a text that is taken: figures, those behind the point, the exponent, the sign -/
structure Form (g : G) (t w f : List Nat) (xb : Bool) (x : List Nat) (neg : Bool) : Prop where
  ex : ∃ (a b : Nat) (m1 W F X m2 : List Nat), t = bl a ++ m1 ++ W ++ F ++ X ++ m2 ++ bl b ∧ (g.blanks = false → a = 0 ∧ b = 0) ∧ Whole g W w ∧ Frac g F f ∧ Expo g X xb x ∧
    ((m1 = [] ∧ m2 = [] ∧ neg = false) ∨ (m1 = [45] ∧ m2 = [] ∧ neg = true ∧ g.ahead = true) ∨ (m1 = [] ∧ m2 = [45] ∧ neg = true ∧ g.behind = true))
/-! ### from the form to the machine -/
theorem fig_no {c : Nat} (h : isFig c = true) : c ≠ 45 ∧ c ≠ 101 ∧ c ≠ 32 ∧ c ≠ 46 ∧ c ≠ 44 ∧ c ≠ 39 := by
  simp [isFig] at h
  omega
theorem step_fig {g : G} {s : S} {c : Nat} (h : isFig c = true) : step g s c = stepFig g s c := by
  unfold step
  rw [if_pos h]
theorem step_minus {g : G} {s : S} : step g s 45 = stepMinus g s := by
  unfold step
  rw [if_neg (by decide), if_pos rfl]
theorem step_letter {g : G} {s : S} : step g s 101 = stepLetter g s := by
  unfold step
  rw [if_neg (by decide), if_neg (by decide), if_pos rfl]
theorem step_blank {g : G} {s : S} (h : g.blanks = true) : step g s 32 = stepBlank s := by
  unfold step
  rw [if_neg (by decide), if_neg (by decide), if_neg (by decide), if_pos ⟨rfl, h⟩]
theorem step_point {g : G} (hg : g.Ok) {s : S} {c : Nat} (h : g.pt = some c) : step g s c = if wholeEnds s then some .point else none := by
  have hc := hg.pt c h
  have h1 : isFig c = false := by rcases hc with rfl | rfl <;> decide
  unfold step
  rw [if_neg (by rw [h1]; decide), if_neg (by omega), if_neg (by omega), if_neg (by omega), if_pos h]
theorem step_comma {g : G} (hg : g.Ok) {s : S} {c : Nat} (h : g.cm = some c) : step g s c = stepComma g s := by
  have hc := hg.cm c h
  have h1 : isFig c = false := by rcases hc with rfl | rfl | rfl | rfl <;> decide
  have h2 : ¬ (c = 32 ∧ g.blanks = true) := fun z => hg.nb z.2 (by rw [h, z.1])
  have h3 : g.pt ≠ some c := fun z => hg.ne c z h
  unfold step
  rw [if_neg (by rw [h1]; decide), if_neg (by omega), if_neg (by omega), if_neg h2, if_neg h3, if_pos h]
theorem run_one {g : G} {s s' : S} {c : Nat} (h : step g s c = some s') : run g s [c] = some s' := by
  show (step g s c).bind _ = _
  rw [h]
  rfl
theorem run_cons {g : G} {s s' : S} {c : Nat} {t : List Nat} (h : step g s c = some s') : run g s (c :: t) = run g s' t := by
  show (step g s c).bind _ = _
  rw [h]
  rfl
theorem run_then {g : G} {s s' : S} {a b : List Nat} (h : run g s a = some s') : run g s (a ++ b) = run g s' b := by
  rw [run_app, h]
  rfl
theorem run_bl {g : G} (h : g.blanks = true) : ∀ n, run g .start (bl n) = some .start
  | 0 => rfl
  | n + 1 => by
    show run g .start (32 :: bl n) = _
    rw [run_cons (s' := .start) (by rw [step_blank h]; rfl)]
    exact run_bl h n
theorem run_fin {g : G} (h : g.blanks = true) : ∀ n, run g .fin (bl n) = some .fin
  | 0 => rfl
  | n + 1 => by
    show run g .fin (32 :: bl n) = _
    rw [run_cons (s' := .fin) (by rw [step_blank h]; rfl)]
    exact run_fin h n
theorem run_end {g : G} (h : g.blanks = true) {s : S} (hs : lack s = 0) (n : Nat) : ∃ s', run g s (bl n) = some s' ∧ lack s' = 0 := by
  cases n with
  | zero => exact ⟨s, rfl, hs⟩
  | succ n =>
    refine ⟨.fin, ?_, rfl⟩
    show run g s (32 :: bl n) = _
    have ns : s ≠ .start := fun z => by rw [z] at hs; cases hs
    rw [run_cons (s' := .fin) (by rw [step_blank h]; unfold stepBlank; rw [if_neg ns, if_pos hs])]
    exact run_fin h n
theorem run_plain {g : G} : ∀ {w : List Nat} {n : Nat}, figs w → (g.must = true → g.cm ≠ none → n + w.length ≤ 3) → n ≤ 4 → run g (.plain n) w = some (.plain (min (n + w.length) 4))
  | [], n, _, _, hn => by
    show some (S.plain n) = some (S.plain (min (n + 0) 4))
    rw [Nat.add_zero, Nat.min_eq_left hn]
  | c :: w, n, f, m, hn => by
    have hf : isFig c = true := f c List.mem_cons_self
    have h1 : ¬ (n = 3 ∧ g.must = true ∧ g.cm ≠ none) := fun z => by
      have := m z.2.1 z.2.2
      simp at this
      omega
    rw [run_cons (s' := .plain (min (n + 1) 4)) (by rw [step_fig hf]; show (if _ then _ else _) = _; rw [if_neg h1])]
    rw [run_plain (fun x hx => f x (List.mem_cons_of_mem _ hx)) (fun a b => by have := m a b; simp at this; omega) (Nat.min_le_right _ _)]
    congr 2
    simp
    omega
theorem run_group {g : G} : ∀ {l : List Nat} {n : Nat}, figs l → n + l.length ≤ 3 → run g (.group n) l = some (.group (n + l.length))
  | [], n, _, _ => rfl
  | c :: l, n, f, m => by
    have hf : isFig c = true := f c List.mem_cons_self
    simp at m
    rw [run_cons (s' := .group (n + 1)) (by rw [step_fig hf]; show (if _ then _ else _) = _; rw [if_pos (by omega)])]
    rw [run_group (fun x hx => f x (List.mem_cons_of_mem _ hx)) (by omega)]
    congr 2
    simp
    omega
theorem run_glue {g : G} (hg : g.Ok) {c : Nat} (hc : g.cm = some c) {l : List Nat} (fl : figs l) (ll : l.length = 3) : ∀ {gs : List (List Nat)} {s : S}, (∀ x ∈ gs, figs x ∧ x.length = g.rest) → stepComma g s = some (.group 0) → run g s (glue c gs ++ c :: l) = some (.group 3)
  | [], s, _, hs => by
    show run g s (c :: l) = _
    rw [run_cons (s' := .group 0) (by rw [step_comma hg hc]; exact hs), run_group fl (by omega)]
    rw [ll]
  | x :: gs, s, f, hs => by
    have hx := f x List.mem_cons_self
    have hr : g.rest ≤ 3 := by have := hg.rest; omega
    show run g s (c :: (x ++ glue c gs) ++ c :: l) = _
    have e : c :: (x ++ glue c gs) ++ c :: l = c :: (x ++ (glue c gs ++ c :: l)) := by simp
    rw [e, run_cons (s' := .group 0) (by rw [step_comma hg hc]; exact hs), run_then (run_group hx.1 (by rw [hx.2]; omega)), hx.2, Nat.zero_add]
    exact run_glue hg hc fl ll (fun y hy => f y (List.mem_cons_of_mem _ hy)) (by show (if _ then _ else _) = _; rw [if_pos rfl])
/-- states behind which a number may end -/
def Good (s : S) : Prop := lack s = 0 ∧ s ≠ .turned ∧ s ≠ .fin
theorem run_first {g : G} {s : S} (h0 : s = .start ∨ s = .minus) {w : List Nat} (f : figs w) (n : w ≠ []) (l : w = [48] ∨ lead g w) (m : g.must = true → g.cm ≠ none → w.length ≤ 3) :
    (run g s w = some (.plain (min w.length 4)) ∧ lead g w) ∨ (run g s w = some .nought ∧ w = [48] ∧ g.zeros = false) := by
  cases w with
  | nil => exact absurd rfl n
  | cons c w =>
    have hf : isFig c = true := f c List.mem_cons_self
    have e : step g s c = some (if c = 48 ∧ g.zeros = false then .nought else .plain 1) := by
      rw [step_fig hf]
      rcases h0 with rfl | rfl <;> rfl
    by_cases z : c = 48 ∧ g.zeros = false
    · rw [if_pos z] at e
      right
      have e2 : c :: w = [48] := by
        rcases l with l | l
        · exact l
        · rcases l with l | l
          · rw [z.2] at l; cases l
          · exact absurd (by rw [z.1]; rfl) l
      rw [run_cons e]
      have e3 : w = [] := by
        have := congrArg List.length e2
        simp at this
        exact this
      rw [e3]
      exact ⟨rfl, by rw [z.1], z.2⟩
    · rw [if_neg z] at e
      left
      rw [run_cons e, run_plain (fun x hx => f x (List.mem_cons_of_mem _ hx)) (fun a b => by have := m a b; simp at this; omega) (by decide)]
      refine ⟨by congr 2; simp; omega, ?_⟩
      by_cases hz : g.zeros = true
      · exact .inl hz
      · right
        intro e4
        have : c = 48 := by simpa using e4
        exact z ⟨this, by simpa using hz⟩
theorem run_whole {g : G} (hg : g.Ok) {s : S} (h0 : s = .start ∨ s = .minus) {W w : List Nat} (h : Whole g W w) : ∃ s', run g s W = some s' ∧ wholeEnds s' = true ∧ Good s' := by
  cases h with
  | plain f n l m =>
    rcases run_first h0 f n l m with ⟨e, _⟩ | ⟨e, _⟩
    · exact ⟨_, e, rfl, rfl, (fun z => nomatch z), (fun z => nomatch z)⟩
    · exact ⟨_, e, rfl, rfl, (fun z => nomatch z), (fun z => nomatch z)⟩
  | @groups c h l gs hc fh nh lh ld fg fl ll =>
    have hr := hg.rest
    refine ⟨.group 3, ?_, rfl, rfl, (fun z => nomatch z), (fun z => nomatch z)⟩
    have e : run g s h = some (.plain (min h.length 4)) := by
      rcases run_first h0 fh nh (.inr ld) (fun _ _ => by omega) with ⟨e, _⟩ | ⟨_, e, z⟩
      · exact e
      · rcases ld with l | l
        · rw [z] at l; cases l
        · exact absurd (by rw [e]; rfl) l
    rw [List.append_assoc, run_then e]
    refine run_glue hg hc fl ll fg ?_
    show (if _ then _ else _) = _
    rw [if_pos (by omega)]
theorem run_frac {g : G} (hg : g.Ok) {s : S} (hs : wholeEnds s = true) (gs : Good s) {F f : List Nat} (h : Frac g F f) : ∃ s', run g s F = some s' ∧ (wholeEnds s' = true ∨ s' = .frac) ∧ Good s' := by
  cases h with
  | none => exact ⟨s, rfl, .inl hs, gs⟩
  | @some c f hc ff nf =>
    refine ⟨.frac, ?_, .inr rfl, rfl, (fun z => nomatch z), (fun z => nomatch z)⟩
    rw [run_cons (s' := .point) (by rw [step_point hg hc, if_pos hs])]
    have more : ∀ f, figs f → run g .frac f = some .frac := by
      intro f
      induction f with
      | nil => intro _; rfl
      | cons c f ih =>
        intro ff
        rw [run_cons (s' := .frac) (by rw [step_fig (ff c List.mem_cons_self)]; rfl)]
        exact ih fun x hx => ff x (List.mem_cons_of_mem _ hx)
    cases f with
    | nil => exact absurd rfl nf
    | cons c f =>
      rw [run_cons (s' := .frac) (by rw [step_fig (ff c List.mem_cons_self)]; rfl)]
      exact more f fun x hx => ff x (List.mem_cons_of_mem _ hx)
theorem run_expo {g : G} {s : S} (hs : wholeEnds s = true ∨ s = .frac) (gs : Good s) {X x : List Nat} {b : Bool} (h : Expo g X b x) : ∃ s', run g s X = some s' ∧ Good s' := by
  cases h with
  | none => exact ⟨s, rfl, gs⟩
  | some he fx nx lx ld =>
    rw [run_cons (s' := .letter) (by rw [step_letter]; unfold stepLetter; rw [if_pos ⟨he, hs⟩])]
    have fin : ∀ s0, s0 = S.letter ∨ s0 = S.less → ∃ s', run g s0 x = some s' ∧ Good s' := by
      intro s0 h0
      match x, fx, nx, lx, ld with
      | [d], fx, _, _, _ =>
        have hd : isFig d = true := fx d List.mem_cons_self
        refine ⟨.power (if d = 48 ∧ g.zeros = false then 2 else 1), run_one ?_, rfl, (fun z => nomatch z), (fun z => nomatch z)⟩
        rw [step_fig hd]
        rcases h0 with rfl | rfl <;> rfl
      | [d, e], fx, _, _, ld =>
        have hd : isFig d = true := fx d List.mem_cons_self
        have he : isFig e = true := fx e (List.mem_cons_of_mem _ List.mem_cons_self)
        have nz : ¬ (d = 48 ∧ g.zeros = false) := fun z => by
          rcases ld rfl with l | l
          · rw [z.2] at l; cases l
          · exact l (by rw [z.1]; rfl)
        refine ⟨.power 2, ?_, rfl, (fun z => nomatch z), (fun z => nomatch z)⟩
        rw [run_cons (s' := .power 1) (by
          rw [step_fig hd]
          have q : stepFig g s0 d = some (.power (if d = 48 ∧ g.zeros = false then 2 else 1)) := by rcases h0 with rfl | rfl <;> rfl
          rw [q, if_neg nz])]
        exact run_one (by rw [step_fig he]; rfl)
      | _ :: _ :: _ :: _, _, _, lx, _ =>
        simp at lx
    cases b with
    | false => exact fin _ (.inl rfl)
    | true =>
      show ∃ s', run g .letter (45 :: x) = some s' ∧ Good s'
      rw [run_cons (s' := .less) (by rw [step_minus]; rfl)]
      exact fin _ (.inr rfl)
theorem step_turned {g : G} {s : S} (h : g.behind = true) (gs : Good s) : step g s 45 = some .turned := by
  rw [step_minus]
  obtain ⟨h1, h2, h3⟩ := gs
  cases s with
  | start => cases h1
  | letter => cases h1
  | turned => exact absurd rfl h2
  | fin => exact absurd rfl h3
  | _ =>
    show (if _ then _ else _) = _
    rw [if_pos ⟨h, h1⟩]
theorem Form.accepts {g : G} (hg : g.Ok) {t w f x : List Nat} {xb neg : Bool} (h : Form g t w f xb x neg) : accepts g t := by
  obtain ⟨a, b, m1, W, F, X, m2, rfl, hb, hW, hF, hX, hm⟩ := h.ex
  have e1 : run g .start (bl a) = some .start := by
    cases hz : g.blanks with
    | true => exact run_bl hz a
    | false =>
      rw [(hb hz).1]
      rfl
  have e2 : ∃ s1, run g .start m1 = some s1 ∧ (s1 = .start ∨ s1 = .minus) := by
    rcases hm with ⟨rfl, _⟩ | ⟨rfl, _, _, ha⟩ | ⟨rfl, _⟩
    · exact ⟨_, rfl, .inl rfl⟩
    · exact ⟨.minus, run_one (by rw [step_minus]; show (if _ then _ else _) = _; rw [if_pos ha]), .inr rfl⟩
    · exact ⟨_, rfl, .inl rfl⟩
  obtain ⟨s1, e2, h1⟩ := e2
  obtain ⟨s2, e3, h2, g2⟩ := run_whole hg h1 hW
  obtain ⟨s3, e4, h3, g3⟩ := run_frac hg h2 g2 hF
  obtain ⟨s4, e5, g4⟩ := run_expo h3 g3 hX
  have e6 : ∃ s5, run g s4 m2 = some s5 ∧ lack s5 = 0 := by
    rcases hm with ⟨_, rfl, _⟩ | ⟨_, rfl, _⟩ | ⟨_, rfl, _, hh⟩
    · exact ⟨_, rfl, g4.1⟩
    · exact ⟨_, rfl, g4.1⟩
    · exact ⟨.turned, run_one (step_turned hh g4), rfl⟩
  obtain ⟨s5, e6, l5⟩ := e6
  have e7 : ∃ s6, run g s5 (bl b) = some s6 ∧ lack s6 = 0 := by
    cases hz : g.blanks with
    | true => exact run_end hz l5 b
    | false =>
      rw [(hb hz).2]
      exact ⟨s5, rfl, l5⟩
  obtain ⟨s6, e7, l6⟩ := e7
  refine ⟨s6, ?_, l6⟩
  rw [List.append_assoc, List.append_assoc, List.append_assoc, List.append_assoc, List.append_assoc, run_then e1, run_then e2, run_then e3, run_then e4, run_then e5, run_then e6]
  exact e7
/-! ### from the machine to the form -/
/-- what stands ahead of the figures -/
def Pre (g : G) (u : List Nat) (neg : Bool) : Prop := ∃ (a : Nat) (m1 : List Nat), u = bl a ++ m1 ∧ (g.blanks = false → a = 0) ∧ ((m1 = [] ∧ neg = false) ∨ (m1 = [45] ∧ neg = true ∧ g.ahead = true))
/-- a text without blanks and without a sign behind -/
def Body (g : G) (t w f : List Nat) (xb : Bool) (x : List Nat) (neg : Bool) : Prop := ∃ u W F X, Pre g u neg ∧ t = u ++ W ++ F ++ X ∧ Whole g W w ∧ Frac g F f ∧ Expo g X xb x
/-- the same, perhaps with a sign behind -/
def Full (g : G) (t w f : List Nat) (xb : Bool) (x : List Nat) (neg : Bool) : Prop := Body g t w f xb x neg ∨ ∃ t', t = t' ++ [45] ∧ Body g t' w f xb x false ∧ neg = true ∧ g.behind = true
def Reach (g : G) (s : S) (t : List Nat) : Prop := match s with
  | .start => Pre g t false ∧ ∀ c ∈ t, c = 32
  | .minus => Pre g t true
  | .nought => g.zeros = false ∧ ∃ u n, Pre g u n ∧ t = u ++ [48]
  | .plain k => ∃ u n w, Pre g u n ∧ t = u ++ w ∧ figs w ∧ w ≠ [] ∧ lead g w ∧ (g.must = true → g.cm ≠ none → w.length ≤ 3) ∧ k = min w.length 4
  | .group k => ∃ u n c h gs l, Pre g u n ∧ t = u ++ (h ++ glue c gs ++ c :: l) ∧ g.cm = some c ∧ figs h ∧ h ≠ [] ∧ h.length ≤ g.rest ∧ lead g h ∧ (∀ x ∈ gs, figs x ∧ x.length = g.rest) ∧ figs l ∧ l.length = k ∧ k ≤ 3
  | .point => ∃ u n W w c, Pre g u n ∧ Whole g W w ∧ g.pt = some c ∧ t = u ++ W ++ [c]
  | .frac => ∃ u n W w c f, Pre g u n ∧ Whole g W w ∧ g.pt = some c ∧ figs f ∧ f ≠ [] ∧ t = u ++ W ++ c :: f
  | .letter => g.expo = true ∧ ∃ u n W w F f, Pre g u n ∧ Whole g W w ∧ Frac g F f ∧ t = u ++ W ++ F ++ [101]
  | .less => g.expo = true ∧ ∃ u n W w F f, Pre g u n ∧ Whole g W w ∧ Frac g F f ∧ t = u ++ W ++ F ++ [101, 45]
  | .power k => g.expo = true ∧ ∃ (u : List Nat) (n : Bool) (W w F f : List Nat) (b : Bool) (x : List Nat), Pre g u n ∧ Whole g W w ∧ Frac g F f ∧ figs x ∧ x ≠ [] ∧ x.length ≤ 2 ∧ (x.length = 2 → lead g x) ∧ (k = 1 → x.length = 1 ∧ lead g x) ∧ t = u ++ W ++ F ++ 101 :: ((if b then [45] else []) ++ x)
  | .turned => g.behind = true ∧ ∃ t' w f xb x, t = t' ++ [45] ∧ Body g t' w f xb x false
  | .fin => g.blanks = true ∧ ∃ t' k w f xb x neg, t = t' ++ bl (k + 1) ∧ Full g t' w f xb x neg
theorem reach_whole {g : G} {s : S} {t : List Nat} (r : Reach g s t) (h : wholeEnds s = true) : ∃ u n W w, Pre g u n ∧ Whole g W w ∧ t = u ++ W := by
  cases s with
  | nought =>
    obtain ⟨_, u, n, p, rfl⟩ := r
    exact ⟨u, n, [48], [48], p, .plain (by intro c hc; have : c = 48 := by simpa using hc
                                           rw [this]; decide) (by simp) (.inl rfl) (fun _ _ => by decide), rfl⟩
  | plain k =>
    obtain ⟨u, n, w, p, rfl, f, nw, l, m, _⟩ := r
    exact ⟨u, n, w, w, p, .plain f nw (.inr l) m, rfl⟩
  | group k =>
    have hk : k = 3 := by
      match k, h with
      | 3, _ => rfl
    subst hk
    obtain ⟨u, n, c, hh, gs, l, p, rfl, hc, fh, nh, lh, ld, fg, fl, ll, _⟩ := r
    exact ⟨u, n, _, _, p, .groups hc fh nh lh ld fg fl ll, rfl⟩
  | _ => cases h
theorem reach_body {g : G} {s : S} {t : List Nat} (r : Reach g s t) (h : Good s) : ∃ w f xb x neg, Body g t w f xb x neg := by
  have wh : wholeEnds s = true → ∃ w f xb x neg, Body g t w f xb x neg := fun z => by
    obtain ⟨u, n, W, w, p, hw, rfl⟩ := reach_whole r z
    exact ⟨w, [], false, [], n, u, W, [], [], p, by simp, hw, .none, .none⟩
  obtain ⟨h1, h2, h3⟩ := h
  cases s with
  | nought => exact wh rfl
  | plain k => exact wh rfl
  | group k =>
    have : k = 3 := by
      obtain ⟨_, _, _, _, _, _, _, _, _, _, _, _, _, _, _, _, hk⟩ := r
      have : 3 - k = 0 := h1
      omega
    subst this
    exact wh rfl
  | frac =>
    obtain ⟨u, n, W, w, c, f, p, hw, hc, ff, nf, rfl⟩ := r
    exact ⟨w, f, false, [], n, u, W, c :: f, [], p, by simp, hw, .some hc ff nf, .none⟩
  | power k =>
    obtain ⟨he, u, n, W, w, F, f, b, x, p, hw, hf, fx, nx, lx, ld, _, rfl⟩ := r
    exact ⟨w, f, b, x, n, u, W, F, _, p, rfl, hw, hf, .some he fx nx lx ld⟩
  | turned => exact absurd rfl h2
  | fin => exact absurd rfl h3
  | _ => cases h1
theorem reach_full {g : G} {s : S} {t : List Nat} (r : Reach g s t) (h1 : lack s = 0) (h2 : s ≠ .fin) : ∃ w f xb x neg, Full g t w f xb x neg := by
  by_cases h3 : s = .turned
  · subst h3
    obtain ⟨hb, t', w, f, xb, x, e, B⟩ := r
    exact ⟨w, f, xb, x, true, .inr ⟨t', e, B, rfl, hb⟩⟩
  · obtain ⟨w, f, xb, x, neg, B⟩ := reach_body r ⟨h1, h3, h2⟩
    exact ⟨w, f, xb, x, neg, .inl B⟩
theorem fig_app {a b : List Nat} (ha : figs a) (hb : figs b) : figs (a ++ b) := fun c hc => (List.mem_append.mp hc).elim (ha c) (hb c)
theorem fig_one {c : Nat} (h : isFig c = true) : figs [c] := fun x hx => by
  have : x = c := by simpa using hx
  rw [this]
  exact h
theorem lead_app {g : G} {a b : List Nat} (h : lead g a) (n : a ≠ []) : lead g (a ++ b) := by
  rcases h with h | h
  · exact .inl h
  · right
    cases a with
    | nil => exact absurd rfl n
    | cons c a => exact h
theorem reach_fig {g : G} {s s' : S} {t : List Nat} {c : Nat} (r : Reach g s t) (hc : isFig c = true) (h : stepFig g s c = some s') : Reach g s' (t ++ [c]) := by
  have first : ∀ n, Pre g t n → (some (if c = 48 ∧ g.zeros = false then S.nought else .plain 1) = some s') → Reach g s' (t ++ [c]) := fun n p h => by
    have h := Option.some.inj h
    by_cases z : c = 48 ∧ g.zeros = false
    · rw [if_pos z] at h
      subst h
      exact ⟨z.2, t, n, p, by rw [z.1]⟩
    · rw [if_neg z] at h
      subst h
      refine ⟨t, n, [c], p, rfl, fig_one hc, by simp, ?_, fun _ _ => by simp, by simp⟩
      by_cases hz : g.zeros = true
      · exact .inl hz
      · exact .inr fun e => z ⟨by simpa using e, by simpa using hz⟩
  have expo : g.expo = true → ∀ b : Bool, (∃ u n W w F f, Pre g u n ∧ Whole g W w ∧ Frac g F f ∧ t = u ++ W ++ F ++ 101 :: (if b then [45] else [])) → (some (S.power (if c = 48 ∧ g.zeros = false then 2 else 1)) = some s') → Reach g s' (t ++ [c]) := fun he b q h => by
    obtain ⟨u, n, W, w, F, f, p, hw, hf, rfl⟩ := q
    have h := Option.some.inj h
    subst h
    refine ⟨he, u, n, W, w, F, f, b, [c], p, hw, hf, fig_one hc, by simp, by simp, fun z => by simp at z, fun z => ⟨rfl, ?_⟩, by simp⟩
    by_cases y : c = 48 ∧ g.zeros = false
    · rw [if_pos y] at z
      omega
    · by_cases hz : g.zeros = true
      · exact .inl hz
      · exact .inr fun e => y ⟨by simpa using e, by simpa using hz⟩
  cases s with
  | start => exact first _ r.1 h
  | minus => exact first _ r h
  | plain k =>
    obtain ⟨u, n, w, p, rfl, f, nw, l, m, hk⟩ := r
    have h : (if k = 3 ∧ g.must = true ∧ g.cm ≠ none then none else some (S.plain (min (k + 1) 4))) = some s' := h
    by_cases z : k = 3 ∧ g.must = true ∧ g.cm ≠ none
    · rw [if_pos z] at h
      cases h
    · rw [if_neg z] at h
      have h := Option.some.inj h
      subst h
      refine ⟨u, n, w ++ [c], p, by simp, fig_app f (fig_one hc), by simp, lead_app l nw, fun a b => ?_, by simp; omega⟩
      have := m a b
      have : ¬ k = 3 := fun e => z ⟨e, a, b⟩
      simp
      omega
  | group k =>
    obtain ⟨u, n, c0, hh, gs, l, p, rfl, hc0, fh, nh, lh, ld, fg, fl, ll, hk⟩ := r
    have h : (if k < 3 then some (S.group (k + 1)) else none) = some s' := h
    by_cases z : k < 3
    · rw [if_pos z] at h
      have h := Option.some.inj h
      subst h
      exact ⟨u, n, c0, hh, gs, l ++ [c], p, by simp, hc0, fh, nh, lh, ld, fg, fig_app fl (fig_one hc), by simp; omega, by omega⟩
    · rw [if_neg z] at h
      cases h
  | point =>
    obtain ⟨u, n, W, w, c0, p, hw, hc0, rfl⟩ := r
    have h := Option.some.inj h
    subst h
    exact ⟨u, n, W, w, c0, [c], p, hw, hc0, fig_one hc, by simp, by simp⟩
  | frac =>
    obtain ⟨u, n, W, w, c0, f, p, hw, hc0, ff, nf, rfl⟩ := r
    have h := Option.some.inj h
    subst h
    exact ⟨u, n, W, w, c0, f ++ [c], p, hw, hc0, fig_app ff (fig_one hc), by simp, by simp⟩
  | letter =>
    obtain ⟨he, u, n, W, w, F, f, p, hw, hf, e⟩ := r
    exact expo he false ⟨u, n, W, w, F, f, p, hw, hf, e⟩ h
  | less =>
    obtain ⟨he, u, n, W, w, F, f, p, hw, hf, e⟩ := r
    exact expo he true ⟨u, n, W, w, F, f, p, hw, hf, e⟩ h
  | power k =>
    obtain ⟨he, u, n, W, w, F, f, b, x, p, hw, hf, fx, nx, lx, ld, h1, rfl⟩ := r
    have h : (if k = 1 then some (S.power 2) else none) = some s' := h
    by_cases z : k = 1
    · rw [if_pos z] at h
      have h := Option.some.inj h
      subst h
      have q := h1 z
      refine ⟨he, u, n, W, w, F, f, b, x ++ [c], p, hw, hf, fig_app fx (fig_one hc), by simp, by simp; omega, fun _ => lead_app q.2 nx, fun z => by omega, by simp⟩
    · rw [if_neg z] at h
      cases h
  | _ => cases h
theorem reach_comma {g : G} (hg : g.Ok) {s s' : S} {t : List Nat} {c : Nat} (r : Reach g s t) (hc : g.cm = some c) (h : stepComma g s = some s') : Reach g s' (t ++ [c]) := by
  cases s with
  | plain k =>
    obtain ⟨u, n, w, p, rfl, f, nw, l, m, hk⟩ := r
    have h : (if k ≤ g.rest then some (S.group 0) else none) = some s' := h
    by_cases z : k ≤ g.rest
    · rw [if_pos z] at h
      have h := Option.some.inj h
      subst h
      have hr := hg.rest
      exact ⟨u, n, c, w, [], [], p, by simp [glue], hc, f, nw, by omega, l, by simp, by simp [figs], rfl, by omega⟩
    · rw [if_neg z] at h
      cases h
  | group k =>
    obtain ⟨u, n, c0, hh, gs, l, p, rfl, hc0, fh, nh, lh, ld, fg, fl, ll, hk⟩ := r
    have h : (if k = g.rest then some (S.group 0) else none) = some s' := h
    by_cases z : k = g.rest
    · rw [if_pos z] at h
      have h := Option.some.inj h
      subst h
      have e : c0 = c := by
        rw [hc] at hc0
        exact (Option.some.inj hc0).symm
      subst e
      have eg : ∀ gs : List (List Nat), glue c0 (gs ++ [l]) = glue c0 gs ++ c0 :: l := by
        intro gs
        induction gs with
        | nil => simp [glue]
        | cons x gs ih =>
          show c0 :: x ++ glue c0 (gs ++ [l]) = c0 :: x ++ glue c0 gs ++ c0 :: l
          rw [ih]
          simp
      refine ⟨u, n, c0, hh, gs ++ [l], [], p, by rw [eg]; simp, hc0, fh, nh, lh, ld, ?_, by simp [figs], rfl, by omega⟩
      intro x hx
      rcases List.mem_append.mp hx with hx | hx
      · exact fg x hx
      · have : x = l := by simpa using hx
        rw [this]
        exact ⟨fl, by omega⟩
    · rw [if_neg z] at h
      cases h
  | _ => cases h
theorem reach_point {g : G} {s : S} {t : List Nat} {c : Nat} (r : Reach g s t) (hc : g.pt = some c) (h : wholeEnds s = true) : Reach g .point (t ++ [c]) := by
  obtain ⟨u, n, W, w, p, hw, rfl⟩ := reach_whole r h
  exact ⟨u, n, W, w, c, p, hw, hc, rfl⟩
theorem reach_letter {g : G} {s s' : S} {t : List Nat} (r : Reach g s t) (h : stepLetter g s = some s') : Reach g s' (t ++ [101]) := by
  unfold stepLetter at h
  by_cases z : g.expo = true ∧ (wholeEnds s = true ∨ s = .frac)
  · rw [if_pos z] at h
    have h := Option.some.inj h
    subst h
    rcases z.2 with y | rfl
    · obtain ⟨u, n, W, w, p, hw, rfl⟩ := reach_whole r y
      exact ⟨z.1, u, n, W, w, [], [], p, hw, .none, by simp⟩
    · obtain ⟨u, n, W, w, c, f, p, hw, hc, ff, nf, rfl⟩ := r
      exact ⟨z.1, u, n, W, w, c :: f, f, p, hw, .some hc ff nf, by simp⟩
  · rw [if_neg z] at h
    cases h
theorem reach_minus {g : G} (hg : g.Ok) {s s' : S} {t : List Nat} (r : Reach g s t) (h : stepMinus g s = some s') : Reach g s' (t ++ [45]) := by
  have turn : Good s → (if g.behind = true ∧ lack s = 0 then some S.turned else none) = some s' → Reach g s' (t ++ [45]) := fun gs h => by
    by_cases z : g.behind = true ∧ lack s = 0
    · rw [if_pos z] at h
      have h := Option.some.inj h
      subst h
      obtain ⟨w, f, xb, x, neg, B⟩ := reach_body r gs
      have : neg = false := by
        obtain ⟨u, W, F, X, ⟨a, m1, _, _, hm⟩, _⟩ := B
        rcases hm with ⟨_, e⟩ | ⟨_, _, ha⟩
        · exact e
        · exact absurd ⟨ha, z.1⟩ hg.one
      subst this
      exact ⟨z.1, t, w, f, xb, x, rfl, B⟩
    · rw [if_neg z] at h
      cases h
  have off : lack s ≠ 0 → (if g.behind = true ∧ lack s = 0 then some S.turned else none) = some s' → Reach g s' (t ++ [45]) := fun n h => by
    rw [if_neg (fun z => n z.2)] at h
    cases h
  cases s with
  | start =>
    have h : (if g.ahead then some S.minus else none) = some s' := h
    by_cases z : g.ahead = true
    · rw [if_pos z] at h
      have h := Option.some.inj h
      subst h
      obtain ⟨⟨a, m1, rfl, hb, hm⟩, _⟩ := r
      rcases hm with ⟨rfl, _⟩ | ⟨_, e, _⟩
      · exact ⟨a, [45], by simp, hb, .inr ⟨rfl, rfl, z⟩⟩
      · cases e
    · rw [if_neg z] at h
      cases h
  | letter =>
    have h := Option.some.inj h
    subst h
    obtain ⟨he, u, n, W, w, F, f, p, hw, hf, rfl⟩ := r
    exact ⟨he, u, n, W, w, F, f, p, hw, hf, by simp⟩
  | turned => cases h
  | fin => cases h
  | minus => exact off (by decide) h
  | point => exact off (by decide) h
  | less => exact off (by decide) h
  | nought => exact turn ⟨rfl, (fun z => nomatch z), (fun z => nomatch z)⟩ h
  | plain k => exact turn ⟨rfl, (fun z => nomatch z), (fun z => nomatch z)⟩ h
  | frac => exact turn ⟨rfl, (fun z => nomatch z), (fun z => nomatch z)⟩ h
  | power k => exact turn ⟨rfl, (fun z => nomatch z), (fun z => nomatch z)⟩ h
  | group k =>
    by_cases z : lack (.group k) = 0
    · exact turn ⟨z, (fun z => nomatch z), (fun z => nomatch z)⟩ h
    · exact off z h
theorem bl_succ (n : Nat) : bl n ++ [32] = bl (n + 1) := by
  unfold bl
  rw [← List.replicate_succ']
theorem reach_blank {g : G} (hb : g.blanks = true) {s s' : S} {t : List Nat} (r : Reach g s t) (h : stepBlank s = some s') : Reach g s' (t ++ [32]) := by
  unfold stepBlank at h
  by_cases z : s = .start
  · rw [if_pos z] at h
    have h := Option.some.inj h
    subst h
    subst z
    obtain ⟨⟨a, m1, rfl, hb', hm⟩, ht⟩ := r
    rcases hm with ⟨rfl, _⟩ | ⟨_, e, _⟩
    · refine ⟨⟨a + 1, [], by rw [List.append_nil, List.append_nil, bl_succ], fun q => (by rw [hb] at q; cases q), .inl ⟨rfl, rfl⟩⟩, ?_⟩
      intro c hc
      rcases List.mem_append.mp hc with hc | hc
      · exact ht c hc
      · simpa using hc
    · cases e
  · rw [if_neg z] at h
    by_cases y : lack s = 0
    · rw [if_pos y] at h
      have h := Option.some.inj h
      subst h
      by_cases hf : s = .fin
      · subst hf
        obtain ⟨_, t', k, w, f, xb, x, neg, rfl, B⟩ := r
        exact ⟨hb, t', k + 1, w, f, xb, x, neg, by rw [List.append_assoc, bl_succ], B⟩
      · obtain ⟨w, f, xb, x, neg, B⟩ := reach_full r y hf
        exact ⟨hb, t, 0, w, f, xb, x, neg, rfl, B⟩
    · rw [if_neg y] at h
      cases h
theorem reach_step {g : G} (hg : g.Ok) {s s' : S} {t : List Nat} {c : Nat} (r : Reach g s t) (h : step g s c = some s') : Reach g s' (t ++ [c]) := by
  unfold step at h
  by_cases h1 : isFig c = true
  · rw [if_pos h1] at h
    exact reach_fig r h1 h
  rw [if_neg h1] at h
  by_cases h2 : c = 45
  · rw [if_pos h2] at h
    rw [h2]
    exact reach_minus hg r h
  rw [if_neg h2] at h
  by_cases h3 : c = 101
  · rw [if_pos h3] at h
    rw [h3]
    exact reach_letter r h
  rw [if_neg h3] at h
  by_cases h4 : c = 32 ∧ g.blanks = true
  · rw [if_pos h4] at h
    rw [h4.1]
    exact reach_blank h4.2 r h
  rw [if_neg h4] at h
  by_cases h5 : g.pt = some c
  · rw [if_pos h5] at h
    by_cases h6 : wholeEnds s = true
    · rw [if_pos h6] at h
      have h := Option.some.inj h
      subst h
      exact reach_point r h5 h6
    · rw [if_neg h6] at h
      cases h
  rw [if_neg h5] at h
  by_cases h6 : g.cm = some c
  · rw [if_pos h6] at h
    exact reach_comma hg r h6 h
  · rw [if_neg h6] at h
    cases h
theorem reach_run {g : G} (hg : g.Ok) : ∀ (t : List Nat) (s s' : S) (u : List Nat), Reach g s u → run g s t = some s' → Reach g s' (u ++ t)
  | [], s, s', u, r, h => by
    have : s = s' := Option.some.inj h
    subst this
    rw [List.append_nil]
    exact r
  | c :: t, s, s', u, r, h => by
    have h : (step g s c).bind (fun s1 => run g s1 t) = some s' := h
    cases e : step g s c with
    | none =>
      rw [e] at h
      cases h
    | some s1 =>
      rw [e] at h
      have q := reach_run hg t s1 s' (u ++ [c]) (reach_step hg r e) h
      rw [List.append_assoc] at q
      exact q
theorem reach_start {g : G} : Reach g .start [] := ⟨⟨0, [], rfl, fun _ => rfl, .inl ⟨rfl, rfl⟩⟩, fun c hc => by simp at hc⟩
theorem full_form {g : G} {t' w f x : List Nat} {xb neg : Bool} {k : Nat} (h : Full g t' w f xb x neg) (hk : g.blanks = false → k = 0) : Form g (t' ++ bl k) w f xb x neg := by
  rcases h with ⟨u, W, F, X, ⟨a, m1, rfl, ha, hm⟩, rfl, hW, hF, hX⟩ | ⟨t'', rfl, ⟨u, W, F, X, ⟨a, m1, rfl, ha, hm⟩, rfl, hW, hF, hX⟩, rfl, hb⟩
  · refine ⟨a, k, m1, W, F, X, [], by simp, fun z => ⟨ha z, hk z⟩, hW, hF, hX, ?_⟩
    rcases hm with ⟨e1, e2⟩ | ⟨e1, e2, e3⟩
    · exact .inl ⟨e1, rfl, e2⟩
    · exact .inr (.inl ⟨e1, rfl, e2, e3⟩)
  · refine ⟨a, k, m1, W, F, X, [45], by simp, fun z => ⟨ha z, hk z⟩, hW, hF, hX, ?_⟩
    rcases hm with ⟨e1, _⟩ | ⟨_, e2, _⟩
    · exact .inr (.inr ⟨e1, rfl, rfl, hb⟩)
    · cases e2
/-- what the machine takes has the form -/
theorem form_of {g : G} (hg : g.Ok) {t : List Nat} (h : accepts g t) : ∃ w f xb x neg, Form g t w f xb x neg := by
  obtain ⟨s, e, hl⟩ := h
  have r := reach_run hg t .start s [] reach_start e
  rw [List.nil_append] at r
  by_cases hf : s = .fin
  · subst hf
    obtain ⟨hb, t', k, w, f, xb, x, neg, rfl, B⟩ := r
    exact ⟨w, f, xb, x, neg, full_form B fun z => by rw [hb] at z; cases z⟩
  · obtain ⟨w, f, xb, x, neg, B⟩ := reach_full r hl hf
    have q := full_form (k := 0) B fun _ => rfl
    have e : t ++ bl 0 = t := List.append_nil t
    rw [e] at q
    exact ⟨w, f, xb, x, neg, q⟩
end RaM

/-! RaSpec: the reading of a text by splitting it, and that it is the same as the form's. -/
namespace RaM
/-! ### splitting -/
def splitL (c : Nat) : List Nat → List (List Nat)
  | [] => [[]]
  | x :: t => if x = c then [] :: splitL c t else match splitL c t with
    | [] => [[x]]
    | h :: r => (x :: h) :: r
theorem splitL_ne (c : Nat) : ∀ l, splitL c l ≠ []
  | [] => by simp [splitL]
  | x :: t => by
    unfold splitL
    by_cases h : x = c
    · rw [if_pos h]; simp
    · rw [if_neg h]
      cases splitL c t <;> simp
theorem splitL_glue {c : Nat} : ∀ {h : List Nat} {gs : List (List Nat)}, c ∉ h → (∀ x ∈ gs, c ∉ x) → splitL c (h ++ glue c gs) = h :: gs
  | [], [], _, _ => rfl
  | [], x :: gs, _, hg => by
    show splitL c (c :: (x ++ glue c gs)) = _
    unfold splitL
    rw [if_pos rfl, splitL_glue (hg x List.mem_cons_self) fun y hy => hg y (List.mem_cons_of_mem _ hy)]
  | a :: h, gs, hh, hg => by
    show splitL c (a :: (h ++ glue c gs)) = _
    have h1 : ¬ a = c := fun z => hh (by rw [z]; exact List.mem_cons_self)
    unfold splitL
    rw [if_neg h1, splitL_glue (fun z => hh (List.mem_cons_of_mem _ z)) hg]
theorem splitL_inv {c : Nat} : ∀ {l : List Nat} {h : List Nat} {gs : List (List Nat)}, splitL c l = h :: gs → l = h ++ glue c gs ∧ c ∉ h ∧ ∀ x ∈ gs, c ∉ x
  | [], h, gs, e => by
    have e : [[]] = h :: gs := e
    injection e with e1 e2
    subst e1 e2
    exact ⟨rfl, by simp, by simp⟩
  | a :: l, h, gs, e => by
    unfold splitL at e
    by_cases z : a = c
    · rw [if_pos z] at e
      injection e with e1 e2
      subst e1
      cases es : splitL c l with
      | nil => exact absurd es (splitL_ne c l)
      | cons h' gs' =>
        rw [es] at e2
        subst e2
        obtain ⟨q1, q2, q3⟩ := splitL_inv es
        refine ⟨by rw [z, q1]; rfl, by simp, fun x hx => ?_⟩
        rcases List.mem_cons.mp hx with rfl | hx
        · exact q2
        · exact q3 x hx
    · rw [if_neg z] at e
      cases es : splitL c l with
      | nil => exact absurd es (splitL_ne c l)
      | cons h' gs' =>
        rw [es] at e
        obtain ⟨q1, q2, q3⟩ := splitL_inv es
        have e : (a :: h') :: gs' = h :: gs := e
        injection e with e1 e2
        subst e1 e2
        refine ⟨by rw [q1]; rfl, fun y => ?_, q3⟩
        rcases List.mem_cons.mp y with y | y
        · exact z y.symm
        · exact q2 y
theorem splitL_no {c : Nat} {l : List Nat} (h : c ∉ l) : splitL c l = [l] := by
  have e := splitL_glue (gs := []) h (by simp)
  simpa [glue] using e
theorem splitL_two {c : Nat} {a b : List Nat} (ha : c ∉ a) (hb : c ∉ b) : splitL c (a ++ c :: b) = [a, b] := by
  have e := splitL_glue (gs := [b]) ha (by simpa using hb)
  simpa [glue] using e
/-! ### stripping -/
def dropB : List Nat → List Nat
  | [] => []
  | c :: t => if c = 32 then dropB t else c :: t
def stripL (l : List Nat) : List Nat := (dropB (dropB l).reverse).reverse
theorem dropB_bl : ∀ (n : Nat) (l : List Nat), dropB (bl n ++ l) = dropB l
  | 0, _ => rfl
  | n + 1, l => by
    show (if 32 = 32 then dropB (bl n ++ l) else 32 :: (bl n ++ l)) = _
    rw [if_pos rfl]
    exact dropB_bl n l
theorem dropB_no {l : List Nat} (h : l.head? ≠ some 32) : dropB l = l := by
  cases l with
  | nil => rfl
  | cons c t =>
    unfold dropB
    rw [if_neg fun z => h (by rw [z]; rfl)]
theorem bl_rev (n : Nat) : (bl n).reverse = bl n := by simp [bl]
theorem stripL_core {a b : Nat} {core : List Nat} (h1 : core.head? ≠ some 32) (h2 : core.getLast? ≠ some 32) (hn : core ≠ []) : stripL (bl a ++ core ++ bl b) = core := by
  unfold stripL
  have e1 : dropB (bl a ++ core ++ bl b) = core ++ bl b := by
    rw [List.append_assoc, dropB_bl, dropB_no]
    cases core with
    | nil => exact absurd rfl hn
    | cons c t => exact h1
  rw [e1, List.reverse_append, bl_rev, dropB_bl, dropB_no, List.reverse_reverse]
  rw [List.head?_reverse]
  exact h2
theorem dropB_inv : ∀ l, ∃ a, l = bl a ++ dropB l
  | [] => ⟨0, rfl⟩
  | c :: t => by
    unfold dropB
    by_cases h : c = 32
    · rw [if_pos h]
      obtain ⟨a, e⟩ := dropB_inv t
      refine ⟨a + 1, ?_⟩
      show c :: t = 32 :: (bl a ++ dropB t)
      rw [h, ← e]
    · rw [if_neg h]
      exact ⟨0, rfl⟩
theorem stripL_inv (l : List Nat) : ∃ a b, l = bl a ++ stripL l ++ bl b := by
  obtain ⟨a, e1⟩ := dropB_inv l
  obtain ⟨b, e2⟩ := dropB_inv (dropB l).reverse
  refine ⟨a, b, ?_⟩
  have e3 : dropB l = stripL l ++ bl b := by
    have := congrArg List.reverse e2
    rw [List.reverse_reverse, List.reverse_append, bl_rev] at this
    exact this
  rw [List.append_assoc, ← e3]
  exact e1
/-! ### the reading by splitting -/
def figuresB (l : List Nat) : Bool := !l.isEmpty && l.all isFig
def wordsB (o : Option Nat) (w : List Nat) : List (List Nat) := match o with
  | some c => splitL c w
  | none => [w]
def wholeB (g : G) (w : List Nat) : Bool :=
  let ws := wordsB g.cm w
  if ws.all figuresB = false then false
  else if g.zeros = false ∧ 1 < w.length ∧ w.head? = some 48 then false
  else if ws.length = 1 then decide (g.cm = none) || !g.must || decide (w.length ≤ 3)
  else if (ws.getLastD []).length ≠ 3 ∨ ¬ (1 ≤ (ws.headD []).length ∧ (ws.headD []).length ≤ g.rest) then false
  else (ws.tail.dropLast).all fun x => decide (x.length = g.rest)
def bodyB (g : G) (t : List Nat) : List Nat × Bool :=
  let b := if g.blanks then stripL t else t
  if g.ahead = true ∧ b.head? = some 45 then (b.tail, true)
  else if g.behind = true ∧ b.getLast? = some 45 then (b.dropLast, true)
  else (b, false)
/-- the figures of an exponent's text, and whether it is below nought -/
def expB (w : List Nat) : List Nat × Bool := if w.head? = some 45 then (w.tail, true) else (w, false)
structure Res where
  w : List Nat
  f : List Nat
  xb : Bool
  x : List Nat
  neg : Bool
def halvesB (g : G) (m : List Nat) (xb : Bool) (x : List Nat) (neg : Bool) (n : List Nat) : Option Res :=
  let hs := wordsB g.pt n
  if 2 < hs.length ∨ wholeB g (hs.headD []) = false then none
  else if hs.length = 2 ∧ figuresB (hs.getLastD []) = false then none
  else some ⟨(hs.headD []).filter isFig, if hs.length = 2 then hs.getLastD [] else m, xb, x, neg⟩
def meansB (g : G) (t : List Nat) : Option Res :=
  let b := bodyB g t
  let ws := splitL 101 b.1
  if ws.length = 2 ∧ g.expo = true then
    let e := expB (ws.getLastD [])
    if figuresB e.1 = false ∨ 2 < e.1.length then none
    else if g.zeros = false ∧ e.1.length = 2 ∧ e.1.head? = some 48 then none
    else halvesB g [] e.2 e.1 b.2 (ws.headD [])
  else if ws.length ≠ 1 then none
  else halvesB g [] false [] b.2 (ws.headD [])
theorem figuresB_iff {l : List Nat} : figuresB l = true ↔ figs l ∧ l ≠ [] := by
  unfold figuresB
  rw [Bool.and_eq_true, List.all_eq_true]
  constructor
  · rintro ⟨a, b⟩
    exact ⟨b, by simpa using a⟩
  · rintro ⟨a, b⟩
    exact ⟨by simpa using b, a⟩
theorem fig_not {c : Nat} {l : List Nat} (h : figs l) (hc : isFig c = false) : c ∉ l := fun m => by
  have := h c m
  rw [hc] at this
  cases this
theorem cm_fig {g : G} (hg : g.Ok) {c : Nat} (h : g.cm = some c) : isFig c = false := by
  rcases hg.cm c h with rfl | rfl | rfl | rfl <;> decide
theorem pt_fig {g : G} (hg : g.Ok) {c : Nat} (h : g.pt = some c) : isFig c = false := by
  rcases hg.pt c h with rfl | rfl <;> decide
theorem glue_app (c : Nat) (l : List Nat) : ∀ gs, glue c (gs ++ [l]) = glue c gs ++ c :: l
  | [] => by simp [glue]
  | x :: gs => by
    show c :: x ++ glue c (gs ++ [l]) = c :: x ++ glue c gs ++ c :: l
    rw [glue_app c l gs]
    simp
theorem glue_mem {c y : Nat} : ∀ {gs : List (List Nat)}, y ∈ glue c gs → y = c ∨ ∃ x ∈ gs, y ∈ x
  | x :: gs, h => by
    have h : y ∈ c :: x ++ glue c gs := h
    simp at h
    rcases h with h | h | h
    · exact .inl h
    · exact .inr ⟨x, List.mem_cons_self, h⟩
    · rcases glue_mem h with h | ⟨z, hz, h⟩
      · exact .inl h
      · exact .inr ⟨z, List.mem_cons_of_mem _ hz, h⟩
/-- what stands in a whole -/
theorem whole_mem {g : G} {W w : List Nat} (h : Whole g W w) {y : Nat} (m : y ∈ W) : isFig y = true ∨ g.cm = some y := by
  cases h with
  | plain f _ _ _ => exact .inl (f y m)
  | @groups c hh l gs hc fh nh lh ld fg fl ll =>
    rw [List.mem_append, List.mem_append, List.mem_cons] at m
    rcases m with (m | m) | m | m
    · exact .inl (fh y m)
    · rcases glue_mem m with e | ⟨x, hx, e⟩
      · exact .inr (by rw [e]; exact hc)
      · exact .inl ((fg x hx).1 y e)
    · exact .inr (by rw [m]; exact hc)
    · exact .inl (fl y m)
theorem whole_ne {g : G} {W w : List Nat} (h : Whole g W w) : W ≠ [] := by
  cases h with
  | plain f n _ _ => exact n
  | groups hc fh nh lh ld fg fl ll => simp [nh]
theorem whole_head {g : G} {W w : List Nat} (h : Whole g W w) : ∃ c t, W = c :: t ∧ isFig c = true := by
  cases h with
  | plain f n _ _ =>
    cases W with
    | nil => exact absurd rfl n
    | cons c t => exact ⟨c, t, rfl, f c List.mem_cons_self⟩
  | @groups c hh l gs hc fh nh lh ld fg fl ll =>
    cases hh with
    | nil => exact absurd rfl nh
    | cons d t => exact ⟨d, t ++ glue c gs ++ c :: l, by simp, fh d List.mem_cons_self⟩
theorem fig_last {l : List Nat} (f : figs l) (n : l ≠ []) : ∃ d, l.getLast? = some d ∧ isFig d = true := by
  refine ⟨l.getLast n, List.getLast?_eq_some_getLast n, f _ (List.getLast_mem n)⟩
theorem whole_last {g : G} {W w : List Nat} (h : Whole g W w) : ∃ d, W.getLast? = some d ∧ isFig d = true := by
  cases h with
  | plain f n _ _ => exact fig_last f n
  | @groups c hh l gs hc fh nh lh ld fg fl ll =>
    have nl : l ≠ [] := fun z => by rw [z] at ll; cases ll
    obtain ⟨d, e, hd⟩ := fig_last fl nl
    refine ⟨d, ?_, hd⟩
    rw [List.getLast?_append]
    have e2 : (c :: l).getLast? = some d := by
      rw [List.getLast?_cons]
      rw [e]
      rfl
    rw [e2]
    rfl
theorem lastD_app (a : List Nat) (gs : List (List Nat)) (l : List Nat) : ((a :: (gs ++ [l])).getLastD []) = l := by
  rw [List.getLastD_eq_getLast?, show a :: (gs ++ [l]) = (a :: gs) ++ [l] from rfl, List.getLast?_append]
  rfl
/-! ### a whole is one -/
theorem whole_words {g : G} (hg : g.Ok) {W w : List Nat} (h : Whole g W w) : wholeB g W = true ∧ W.filter isFig = w := by
  have keep : ∀ l, figs l → l.filter isFig = l := fun l f => List.filter_eq_self.mpr f
  cases h with
  | plain f n l m =>
    refine ⟨?_, keep _ f⟩
    have e : wordsB g.cm W = [W] := by
      unfold wordsB
      cases hc : g.cm with
      | none => rfl
      | some c => exact splitL_no (fig_not f (cm_fig hg hc))
    unfold wholeB
    simp only [e]
    have e1 : ([W].all figuresB) = true := by simpa using figuresB_iff.mpr ⟨f, n⟩
    rw [if_neg (by rw [e1]; decide), if_neg, if_pos (show [W].length = 1 from rfl)]
    · cases hm : g.must with
      | false => simp
      | true =>
        cases hc : g.cm with
        | none => simp
        | some c =>
          have := m hm (by rw [hc]; simp)
          simp [this]
    · rintro ⟨z, y, x⟩
      rcases l with l | l | l
      · rw [l] at y
        simp at y
      · rw [z] at l
        cases l
      · exact l x
  | @groups c hh l gs hc fh nh lh ld fg fl ll =>
    have nc := cm_fig hg hc
    have e0 : hh ++ glue c gs ++ c :: l = hh ++ glue c (gs ++ [l]) := by rw [glue_app]; simp
    have e : wordsB g.cm (hh ++ glue c gs ++ c :: l) = hh :: (gs ++ [l]) := by
      unfold wordsB
      rw [hc, e0]
      refine splitL_glue (fig_not fh nc) fun x hx => ?_
      rcases List.mem_append.mp hx with hx | hx
      · exact fig_not (fg x hx).1 nc
      · have : x = l := by simpa using hx
        rw [this]
        exact fig_not fl nc
    have nl : l ≠ [] := fun z => by rw [z] at ll; cases ll
    have hr := hg.rest
    constructor
    · unfold wholeB
      simp only [e]
      have e1 : ((hh :: (gs ++ [l])).all figuresB) = true := by
        rw [List.all_eq_true]
        intro x hx
        rw [figuresB_iff]
        rcases List.mem_cons.mp hx with rfl | hx
        · exact ⟨fh, nh⟩
        rcases List.mem_append.mp hx with hx | hx
        · refine ⟨(fg x hx).1, fun z => ?_⟩
          have := (fg x hx).2
          rw [z] at this
          simp at this
          omega
        · have : x = l := by simpa using hx
          rw [this]
          exact ⟨fl, nl⟩
      have e2 : (hh ++ glue c gs ++ c :: l).head? = hh.head? := by
        cases hh with
        | nil => exact absurd rfl nh
        | cons a b => rfl
      rw [if_neg (by rw [e1]; decide), if_neg, if_neg (by simp), if_neg]
      · have e3 : (hh :: (gs ++ [l])).tail.dropLast = gs := by simp
        rw [e3, List.all_eq_true]
        intro x hx
        exact decide_eq_true (fg x hx).2
      · have e3 : ((hh :: (gs ++ [l])).getLastD []) = l := lastD_app hh gs l
        have e4 : ((hh :: (gs ++ [l])).headD []) = hh := rfl
        rw [e3, e4]
        have : 0 < hh.length := List.length_pos_iff.mpr nh
        omega
      · rintro ⟨z, _, x⟩
        rw [e2] at x
        rcases ld with l | l
        · rw [z] at l
          cases l
        · exact l x
    · rw [List.filter_append, List.filter_append, keep _ fh]
      have e5 : (c :: l).filter isFig = l := by
        rw [List.filter_cons, if_neg (by rw [nc]; decide), keep _ fl]
      rw [e5]
      congr 2
      have : ∀ gs : List (List Nat), (∀ x ∈ gs, figs x) → (glue c gs).filter isFig = gs.flatten := by
        intro gs
        induction gs with
        | nil => intro _; rfl
        | cons x gs ih =>
          intro f
          show (c :: (x ++ glue c gs)).filter isFig = x ++ gs.flatten
          rw [List.filter_cons, if_neg (by rw [nc]; decide), List.filter_append, keep _ (f x List.mem_cons_self), ih fun y hy => f y (List.mem_cons_of_mem _ hy)]
      exact this gs fun x hx => (fg x hx).1
theorem words_whole {g : G} (hg : g.Ok) {W : List Nat} (h : wholeB g W = true) : Whole g W (W.filter isFig) := by
  unfold wholeB at h
  simp only at h
  by_cases h1 : (wordsB g.cm W).all figuresB = false
  · rw [if_pos h1] at h
    cases h
  rw [if_neg h1] at h
  by_cases h2 : g.zeros = false ∧ 1 < W.length ∧ W.head? = some 48
  · rw [if_pos h2] at h
    cases h
  rw [if_neg h2] at h
  have h1 : (wordsB g.cm W).all figuresB = true := by simpa using h1
  rw [List.all_eq_true] at h1
  have ld : ∀ l : List Nat, l ≠ [] → W.head? = l.head? → 1 < W.length → lead g l := fun l nl e hl => by
    by_cases z : g.zeros = true
    · exact .inl z
    · right
      intro y
      exact h2 ⟨by simpa using z, hl, by rw [e]; exact y⟩
  have keep : ∀ l, figs l → l.filter isFig = l := fun l f => List.filter_eq_self.mpr f
  by_cases h3 : (wordsB g.cm W).length = 1
  · rw [if_pos h3] at h
    have e : wordsB g.cm W = [W] := by
      unfold wordsB at h3 ⊢
      cases hc : g.cm with
      | none => rfl
      | some c =>
        rw [hc] at h3
        cases es : splitL c W with
        | nil => exact absurd es (splitL_ne c W)
        | cons a gs =>
          have h3 : (splitL c W).length = 1 := h3
          rw [es] at h3
          have : gs = [] := by
            cases gs with
            | nil => rfl
            | cons _ _ => simp at h3
          subst this
          obtain ⟨q, _⟩ := splitL_inv es
          have : W = a := by simpa [glue] using q
          show splitL c W = [W]
          rw [es, this]
    rw [e] at h1
    obtain ⟨f, n⟩ := figuresB_iff.mp (h1 W List.mem_cons_self)
    rw [keep _ f]
    refine .plain f n ?_ fun hm hc => ?_
    · by_cases hl : 1 < W.length
      · exact .inr (ld W n rfl hl)
      · match W, n, hl with
        | [c], _, _ =>
          by_cases z : c = 48
          · left
            rw [z]
          · right
            right
            simp [z]
        | _ :: _ :: _, _, hl => simp at hl
    · rw [hm] at h
      simp [hc] at h
      exact h
  · rw [if_neg h3] at h
    cases hc : g.cm with
    | none =>
      rw [hc] at h3
      exact absurd rfl h3
    | some c =>
      have ew : wordsB g.cm W = splitL c W := by rw [hc]; rfl
      rw [ew] at h h1 h3
      cases es : splitL c W with
      | nil => exact absurd es (splitL_ne c W)
      | cons hh r =>
        rw [es] at h h1 h3
        obtain ⟨q, _, _⟩ := splitL_inv es
        have nr : r ≠ [] := fun z => h3 (by rw [z]; rfl)
        obtain ⟨gs, l, rfl⟩ : ∃ gs l, r = gs ++ [l] := ⟨r.dropLast, r.getLast nr, (List.dropLast_concat_getLast nr).symm⟩
        by_cases h4 : ((hh :: (gs ++ [l])).getLastD []).length ≠ 3 ∨ ¬ (1 ≤ ((hh :: (gs ++ [l])).headD []).length ∧ ((hh :: (gs ++ [l])).headD []).length ≤ g.rest)
        · rw [if_pos h4] at h
          cases h
        rw [if_neg h4] at h
        have e3 : ((hh :: (gs ++ [l])).getLastD []) = l := lastD_app hh gs l
        have e4 : ((hh :: (gs ++ [l])).headD []) = hh := rfl
        rw [e3, e4] at h4
        have e5 : (hh :: (gs ++ [l])).tail.dropLast = gs := by simp
        rw [e5, List.all_eq_true] at h
        obtain ⟨fh, nh⟩ := figuresB_iff.mp (h1 hh List.mem_cons_self)
        obtain ⟨fl, nl⟩ := figuresB_iff.mp (h1 l (by simp))
        have fg : ∀ x ∈ gs, figs x ∧ x.length = g.rest := fun x hx => ⟨(figuresB_iff.mp (h1 x (by simp [hx]))).1, of_decide_eq_true (h x hx)⟩
        have e0 : W = hh ++ glue c gs ++ c :: l := by rw [q, glue_app]; simp
        have ll : l.length = 3 := by omega
        have ldh : lead g hh := by
          refine ld hh nh ?_ ?_
          · rw [e0]
            cases hh with
            | nil => exact absurd rfl nh
            | cons a b => rfl
          · rw [e0]
            simp
            omega
        have W1 : Whole g (hh ++ glue c gs ++ c :: l) (hh ++ gs.flatten ++ l) := .groups hc fh nh (by omega) ldh fg fl ll
        have := (whole_words hg W1).2
        rw [e0, this]
        exact W1
/-! ### the form, read by splitting -/
theorem whole_no {g : G} {W w : List Nat} (h : Whole g W w) {y : Nat} (h1 : isFig y = false) (h2 : g.cm ≠ some y) : y ∉ W := fun m => by
  rcases whole_mem h m with e | e
  · rw [h1] at e
    cases e
  · exact h2 e
theorem halves_form {g : G} (hg : g.Ok) {W w F f x : List Nat} {xb neg : Bool} (hW : Whole g W w) (hF : Frac g F f) : halvesB g [] xb x neg (W ++ F) = some ⟨w, f, xb, x, neg⟩ := by
  obtain ⟨k1, k2⟩ := whole_words hg hW
  cases hF with
  | none =>
    have e : wordsB g.pt (W ++ []) = [W] := by
      rw [List.append_nil]
      unfold wordsB
      cases hp : g.pt with
      | none => rfl
      | some c => exact splitL_no (whole_no hW (pt_fig hg hp) (hg.ne c hp))
    unfold halvesB
    simp only [e]
    rw [if_neg, if_neg]
    · show some (Res.mk (W.filter isFig) (if 1 = 2 then _ else []) xb x neg) = _
      rw [k2, if_neg (by decide)]
    · rintro ⟨z, _⟩
      cases z
    · rintro (z | z)
      · have z : 2 < 1 := z
        omega
      · have z : wholeB g W = false := z
        rw [k1] at z
        cases z
  | @some c f hc ff nf =>
    have e : wordsB g.pt (W ++ c :: f) = [W, f] := by
      unfold wordsB
      rw [hc]
      exact splitL_two (whole_no hW (pt_fig hg hc) (hg.ne c hc)) (fig_not ff (pt_fig hg hc))
    unfold halvesB
    simp only [e]
    rw [if_neg, if_neg]
    · show some (Res.mk (W.filter isFig) (if 2 = 2 then f else []) xb x neg) = _
      rw [k2, if_pos rfl]
    · rintro ⟨_, z⟩
      have z : figuresB f = false := z
      rw [figuresB_iff.mpr ⟨ff, nf⟩] at z
      cases z
    · rintro (z | z)
      · have z : 2 < 2 := z
        omega
      · have z : wholeB g W = false := z
        rw [k1] at z
        cases z
theorem last_app {a b : List Nat} {d : Nat} (h : b.getLast? = some d) : (a ++ b).getLast? = some d := by
  rw [List.getLast?_append, h]
  rfl
theorem last_cons {c d : Nat} {b : List Nat} (h : b.getLast? = some d) : (c :: b).getLast? = some d := last_app (a := [c]) h
theorem mid_last {g : G} {W w F f X x : List Nat} {xb : Bool} (hW : Whole g W w) (hF : Frac g F f) (hX : Expo g X xb x) : ∃ d, (W ++ F ++ X).getLast? = some d ∧ isFig d = true := by
  cases hX with
  | none =>
    rw [List.append_nil]
    cases hF with
    | none =>
      rw [List.append_nil]
      exact whole_last hW
    | some hc ff nf =>
      obtain ⟨d, e, hd⟩ := fig_last ff nf
      exact ⟨d, last_app (last_cons e), hd⟩
  | some he fx nx lx ld =>
    obtain ⟨d, e, hd⟩ := fig_last fx nx
    refine ⟨d, last_app (last_cons (last_app e)), hd⟩
theorem cm_101 {g : G} (hg : g.Ok) : g.cm ≠ some 101 := fun z => by
  have := hg.cm _ z
  omega
theorem form_means {g : G} (hg : g.Ok) {t w f x : List Nat} {xb neg : Bool} (h : Form g t w f xb x neg) : meansB g t = some ⟨w, f, xb, x, neg⟩ := by
  obtain ⟨a, b, m1, W, F, X, m2, rfl, hb, hW, hF, hX, hm⟩ := h.ex
  obtain ⟨c0, t0, eW, hc0⟩ := whole_head hW
  obtain ⟨d, ed, hd⟩ := mid_last hW hF hX
  have eN : (W ++ F ++ X).head? = some c0 := by rw [eW]; rfl
  have n0 := fig_no hc0
  have nd := fig_no hd
  have nN : W ++ F ++ X ≠ [] := by rw [eW]; simp
  -- the body
  have eb : bodyB g (bl a ++ m1 ++ W ++ F ++ X ++ m2 ++ bl b) = (W ++ F ++ X, neg) := by
    have core : (if g.blanks then stripL (bl a ++ m1 ++ W ++ F ++ X ++ m2 ++ bl b) else bl a ++ m1 ++ W ++ F ++ X ++ m2 ++ bl b) = m1 ++ (W ++ F ++ X) ++ m2 := by
      have e0 : bl a ++ m1 ++ W ++ F ++ X ++ m2 ++ bl b = bl a ++ (m1 ++ (W ++ F ++ X) ++ m2) ++ bl b := by simp
      cases hz : g.blanks with
      | false =>
        rw [(hb hz).1, (hb hz).2]
        simp [bl]
      | true =>
        rw [if_pos rfl, e0]
        refine stripL_core ?_ ?_ (by simp [eW])
        · rcases hm with ⟨rfl, _⟩ | ⟨rfl, _⟩ | ⟨rfl, _⟩
          · rw [List.nil_append, eW]
            simp
            omega
          · simp
          · rw [List.nil_append, eW]
            simp
            omega
        · rcases hm with ⟨_, rfl, _⟩ | ⟨_, rfl, _⟩ | ⟨_, rfl, _⟩
          · rw [List.append_nil, last_app ed]
            simp
            omega
          · rw [List.append_nil, last_app ed]
            simp
            omega
          · rw [last_app (b := [45]) rfl]
            simp
    unfold bodyB
    simp only [core]
    rcases hm with ⟨rfl, rfl, rfl⟩ | ⟨rfl, rfl, rfl, ha⟩ | ⟨rfl, rfl, rfl, hh⟩
    · rw [List.nil_append, List.append_nil, if_neg, if_neg]
      · rintro ⟨_, z⟩
        rw [ed] at z
        have := Option.some.inj z
        omega
      · rintro ⟨_, z⟩
        rw [eN] at z
        have := Option.some.inj z
        omega
    · rw [List.append_nil, if_pos ⟨ha, rfl⟩]
      rfl
    · have na : ¬ g.ahead = true := fun z => hg.one ⟨z, hh⟩
      rw [if_neg fun z => na z.1, if_pos ⟨hh, last_app (b := [45]) rfl⟩]
      simp
  unfold meansB
  simp only [eb]
  have noW : 101 ∉ W := whole_no hW (by decide) (cm_101 hg)
  have noF : 101 ∉ F := by
    cases hF with
    | none => simp
    | @some c f hc ff nf =>
      intro m
      rcases List.mem_cons.mp m with e | m
      · have := hg.pt c hc
        omega
      · exact fig_not ff (by decide) m
  have noWF : 101 ∉ W ++ F := fun m => (List.mem_append.mp m).elim noW noF
  cases hX with
  | none =>
    rw [List.append_nil, splitL_no noWF, if_neg (fun z => by cases z.1), if_neg (by simp)]
    exact halves_form hg hW hF
  | some he fx nx lx ld =>
    have noy : 101 ∉ ((if xb then [45] else []) ++ x) := by
      intro m
      rcases List.mem_append.mp m with m | m
      · cases xb <;> simp at m
      · exact fig_not fx (by decide) m
    have ee : expB ((if xb then [45] else []) ++ x) = (x, xb) := by
      unfold expB
      cases xb with
      | true =>
        rw [if_pos rfl]
        rfl
      | false =>
        rw [if_neg]
        · rfl
        · cases x with
          | nil => exact absurd rfl nx
          | cons q r =>
            have := fig_no (fx q List.mem_cons_self)
            show ¬ some q = some 45
            intro z
            exact this.1 (Option.some.inj z)
    have e2 : (([W ++ F, (if xb then [45] else []) ++ x] : List (List Nat)).getLastD []) = (if xb then [45] else []) ++ x := rfl
    rw [splitL_two noWF noy, if_pos ⟨rfl, he⟩]
    simp only [e2, ee]
    rw [if_neg, if_neg]
    · exact halves_form hg hW hF
    · rintro ⟨z, y, v⟩
      rcases ld y with l | l
      · rw [z] at l
        cases l
      · exact l v
    · rintro (z | z)
      · rw [figuresB_iff.mpr ⟨fx, nx⟩] at z
        cases z
      · omega
/-! ### and back -/
theorem halves_inv {g : G} (hg : g.Ok) {n x : List Nat} {xb neg : Bool} {r : Res} (h : halvesB g [] xb x neg n = some r) : ∃ W F, n = W ++ F ∧ Whole g W r.w ∧ Frac g F r.f ∧ r.xb = xb ∧ r.x = x ∧ r.neg = neg := by
  unfold halvesB at h
  simp only at h
  by_cases h1 : 2 < (wordsB g.pt n).length ∨ wholeB g ((wordsB g.pt n).headD []) = false
  · rw [if_pos h1] at h
    cases h
  rw [if_neg h1] at h
  by_cases h2 : (wordsB g.pt n).length = 2 ∧ figuresB ((wordsB g.pt n).getLastD []) = false
  · rw [if_pos h2] at h
    cases h
  rw [if_neg h2] at h
  have h := Option.some.inj h
  subst h
  have hw : wholeB g ((wordsB g.pt n).headD []) = true := by
    cases e : wholeB g ((wordsB g.pt n).headD []) with
    | true => rfl
    | false => exact absurd (.inr e) h1
  have hW := words_whole hg hw
  cases hp : g.pt with
  | none =>
    have e : wordsB g.pt n = [n] := by rw [hp]; rfl
    rw [hp] at e
    simp only [hp, e] at hW h1 h2 ⊢
    exact ⟨n, [], (List.append_nil n).symm, hW, .none, by simp⟩
  | some c =>
    have e : wordsB g.pt n = splitL c n := by rw [hp]; rfl
    rw [hp] at e
    cases es : splitL c n with
    | nil => exact absurd es (splitL_ne c n)
    | cons a gs =>
      obtain ⟨q, _, _⟩ := splitL_inv es
      rw [es] at e
      simp only [hp, e] at hW h1 h2 ⊢
      match gs, q, h1, h2 with
      | [], q, _, _ => exact ⟨a, [], by simpa [glue] using q, hW, .none, by simp⟩
      | [b], q, _, h2 =>
        refine ⟨a, c :: b, by simpa [glue] using q, hW, ?_, by simp⟩
        have hb : figuresB b = true := by
          cases z : figuresB b with
          | true => rfl
          | false => exact absurd ⟨rfl, z⟩ h2
        obtain ⟨fb, nb⟩ := figuresB_iff.mp hb
        exact .some hp fb nb
      | _ :: _ :: _, _, h1, _ => exact absurd (.inl (by simp)) h1
theorem head_cons {l : List Nat} {c : Nat} (h : l.head? = some c) : l = c :: l.tail := by
  cases l with
  | nil => cases h
  | cons a b =>
    have : a = c := Option.some.inj h
    rw [this]
    rfl
theorem last_snoc {l : List Nat} {c : Nat} (h : l.getLast? = some c) : l = l.dropLast ++ [c] := by
  cases l with
  | nil => cases h
  | cons a b =>
    have e : (a :: b).getLast (by simp) = c := by
      rw [List.getLast?_eq_some_getLast (by simp)] at h
      exact Option.some.inj h
    rw [← e, List.dropLast_concat_getLast]
theorem body_inv {g : G} (t : List Nat) : ∃ (a b : Nat) (m1 m2 : List Nat), t = bl a ++ m1 ++ (bodyB g t).1 ++ m2 ++ bl b ∧ (g.blanks = false → a = 0 ∧ b = 0) ∧
    ((m1 = [] ∧ m2 = [] ∧ (bodyB g t).2 = false) ∨ (m1 = [45] ∧ m2 = [] ∧ (bodyB g t).2 = true ∧ g.ahead = true) ∨ (m1 = [] ∧ m2 = [45] ∧ (bodyB g t).2 = true ∧ g.behind = true)) := by
  obtain ⟨a, b, e, hb⟩ : ∃ a b, t = bl a ++ (if g.blanks then stripL t else t) ++ bl b ∧ (g.blanks = false → a = 0 ∧ b = 0) := by
    cases hz : g.blanks with
    | false => exact ⟨0, 0, by simp [bl], fun _ => ⟨rfl, rfl⟩⟩
    | true =>
      obtain ⟨a, b, e⟩ := stripL_inv t
      exact ⟨a, b, e, fun z => by cases z⟩
  refine ⟨a, b, ?_⟩
  unfold bodyB
  simp only
  generalize (if g.blanks then stripL t else t) = u at e ⊢
  by_cases h1 : g.ahead = true ∧ u.head? = some 45
  · rw [if_pos h1]
    refine ⟨[45], [], ?_, hb, .inr (.inl ⟨rfl, rfl, rfl, h1.1⟩)⟩
    have := head_cons h1.2
    rw [e]
    refine (congrArg (fun z => bl a ++ z ++ bl b) this).trans ?_
    simp
  rw [if_neg h1]
  by_cases h2 : g.behind = true ∧ u.getLast? = some 45
  · rw [if_pos h2]
    refine ⟨[], [45], ?_, hb, .inr (.inr ⟨rfl, rfl, rfl, h2.1⟩)⟩
    have := last_snoc h2.2
    rw [e]
    refine (congrArg (fun z => bl a ++ z ++ bl b) this).trans ?_
    simp
  rw [if_neg h2]
  exact ⟨[], [], by simpa using e, hb, .inl ⟨rfl, rfl, rfl⟩⟩
theorem means_form {g : G} (hg : g.Ok) {t : List Nat} {r : Res} (h : meansB g t = some r) : Form g t r.w r.f r.xb r.x r.neg := by
  obtain ⟨a, b, m1, m2, e, hb, hm⟩ := body_inv (g := g) t
  have fin : ∀ W F X, (bodyB g t).1 = W ++ F ++ X → Whole g W r.w → Frac g F r.f → Expo g X r.xb r.x → r.neg = (bodyB g t).2 → Form g t r.w r.f r.xb r.x r.neg := by
    intro W F X e1 hW hF hX hn
    refine ⟨a, b, m1, W, F, X, m2, ?_, hb, hW, hF, hX, ?_⟩
    · rw [e, e1]
      simp
    · rw [hn]
      exact hm
  unfold meansB at h
  simp only at h
  by_cases h1 : (splitL 101 (bodyB g t).1).length = 2 ∧ g.expo = true
  · rw [if_pos h1] at h
    cases es : splitL 101 (bodyB g t).1 with
    | nil => exact absurd es (splitL_ne _ _)
    | cons u gs =>
      rw [es] at h h1
      match gs, h1.1 with
      | [y], _ =>
        obtain ⟨q, _, _⟩ := splitL_inv es
        have e2 : (([u, y] : List (List Nat)).getLastD []) = y := rfl
        have e3 : (([u, y] : List (List Nat)).headD []) = u := rfl
        rw [e2, e3] at h
        by_cases h2 : figuresB (expB y).1 = false ∨ 2 < (expB y).1.length
        · rw [if_pos h2] at h
          cases h
        rw [if_neg h2] at h
        by_cases h3 : g.zeros = false ∧ (expB y).1.length = 2 ∧ (expB y).1.head? = some 48
        · rw [if_pos h3] at h
          cases h
        rw [if_neg h3] at h
        obtain ⟨W, F, e4, hW, hF, k1, k2, k3⟩ := halves_inv hg h
        have hf : figuresB (expB y).1 = true := by
          cases z : figuresB (expB y).1 with
          | true => rfl
          | false => exact absurd (.inl z) h2
        obtain ⟨fx, nx⟩ := figuresB_iff.mp hf
        have ey : y = (if (expB y).2 then [45] else []) ++ (expB y).1 := by
          unfold expB
          by_cases z : y.head? = some 45
          · rw [if_pos z]
            exact head_cons z
          · rw [if_neg z]
            rfl
        refine fin W F (101 :: y) (by rw [q, e4]; simp [glue]) hW hF ?_ k3
        rw [k1, k2]
        have X1 : Expo g (101 :: ((if (expB y).2 then [45] else []) ++ (expB y).1)) (expB y).2 (expB y).1 := by
          refine .some h1.2 fx nx ?_ fun z => ?_
          · rcases Nat.lt_or_ge 2 (expB y).1.length with z | z
            · exact absurd (.inr z) h2
            · exact z
          · by_cases hz : g.zeros = true
            · exact .inl hz
            · exact .inr fun v => h3 ⟨by simpa using hz, z, v⟩
        rw [← ey] at X1
        exact X1
      | [], z => cases z
      | _ :: _ :: _, z => cases z
  rw [if_neg h1] at h
  by_cases h2 : (splitL 101 (bodyB g t).1).length ≠ 1
  · rw [if_pos h2] at h
    cases h
  rw [if_neg h2] at h
  cases es : splitL 101 (bodyB g t).1 with
  | nil => exact absurd es (splitL_ne _ _)
  | cons u gs =>
    rw [es] at h h2
    have : gs = [] := by
      cases gs with
      | nil => rfl
      | cons _ _ => simp at h2
    subst this
    obtain ⟨q, _, _⟩ := splitL_inv es
    obtain ⟨W, F, e4, hW, hF, k1, k2, k3⟩ := halves_inv hg h
    have e4 : u = W ++ F := e4
    refine fin W F [] (by rw [q, e4]; simp [glue]) hW hF ?_ k3
    rw [k1, k2]
    exact .none
/-- taken by the machine, read by splitting: the same texts -/
theorem accepts_iff {g : G} (hg : g.Ok) (t : List Nat) : accepts g t ↔ ∃ r, meansB g t = some r := by
  constructor
  · intro h
    obtain ⟨w, f, xb, x, neg, F⟩ := form_of hg h
    exact ⟨_, form_means hg F⟩
  · rintro ⟨r, h⟩
    exact (means_form hg h).accepts hg
end RaM

/-! RaStates: the states of the machine as tuples; the parts of a reader as plain data. -/
namespace Ra
open PySem PySem.Spec PyProof.Rows L2 RaX
/-! ### states -/
open RaM (S)
def plc : S → Str
  | .start => "start" | .minus => "minus" | .nought => "nought" | .plain _ => "plain" | .group _ => "group" | .point => "point" | .frac => "fraction"
  | .letter => "letter" | .less => "less" | .power _ => "power" | .turned => "turned" | .fin => "end"
def mny : S → Int
  | .plain n => n | .group n => n | .power n => n | _ => 0
def sV (s : S) : List V := [.str (plc s), .int (mny s)]
def dS (s : S) : PyData := .tuple [.str (plc s), .int (mny s)]
def SOk : S → Prop
  | .group n => n ≤ 3
  | _ => True
def StV (K : PySem.W.Frag) (H : Hp) (v : V) (s : S) : Prop := ∃ a, v = .ref a ∧ SqT K H a (sV s)
def OSt (K : PySem.W.Frag) (H : Hp) (v : V) : Option S → Prop
  | none => v = .non
  | some s => StV K H v s
theorem StV.dp {K : PySem.W.Frag} {H : Hp} {v : V} {s : S} (h : StV K H v s) : Dp K H v (dS s) := by
  obtain ⟨a, rfl, h⟩ := h
  exact .tup h (.cons (.str _) (.cons (.int _) .nil))
theorem StV.same {K : PySem.W.Frag} {H H' : Hp} {v : V} {s : S} (h : StV K H v s) (e : Same H H') : StV K H' v s := by
  obtain ⟨a, rfl, h⟩ := h
  exact ⟨a, rfl, Same.seqT e h⟩
theorem StV.wt {K : PySem.W.Frag} {H : Hp} {a : Addr} {s : S} (h : WT K a (sV s)) : StV K H (.ref a) s := ⟨a, rfl, h.sq⟩
theorem StV.new {K : PySem.W.Frag} {H : Hp} {a : Addr} {s : S} (h : H a = some (.tup (sV s))) : StV K H (.ref a) s := ⟨a, rfl, SqT.of h⟩
theorem StV.isN {K : PySem.W.Frag} {H : Hp} {v : V} {s : S} (h : StV K H v s) : v ≠ .non := by
  obtain ⟨a, rfl, h⟩ := h
  exact fun z => nomatch z
theorem plc_ok (s : S) : PyData.strOk (plc s) = true := by cases s <;> (simp only [plc]; decide +kernel)
theorem dS_shaped (s : S) : SeqAt.shaped (dS s) = true := by
  refine Bool.and_eq_true_iff.mpr ⟨?_, decide_eq_true ?_⟩
  · simp only [PyData.canLay0, dS, PyData.canLayAll0]
    rw [plc_ok]
    rfl
  · simp only [PyData.depth, dS, PyData.depthAll]
    omega
theorem plc_inj {s t : S} (h : plc s = plc t) (h2 : mny s = mny t) : s = t := by
  cases s <;> cases t <;> first | rfl | (exact absurd h (by simp only [plc]; decide +kernel)) | (simp only [mny] at h2; congr 1; omega)
theorem eqS (s t : S) : PyData.eqv (dS s) (dS t) = decide (s = t) := by
  simp only [dS, PyData.eqv, PyData.eqvAll, Bool.and_true]
  rw [Bool.eq_iff_iff]
  simp only [Bool.and_eq_true, beq_iff_eq, decide_eq_true_eq]
  exact ⟨fun z => plc_inj z.1 z.2, fun z => by rw [z]; exact ⟨rfl, rfl⟩⟩
theorem twoS_shaped (s t : S) : SeqAt.shaped (.tuple [dS s, dS t]) = true := by
  refine Bool.and_eq_true_iff.mpr ⟨?_, decide_eq_true ?_⟩
  · simp only [PyData.canLay0, dS, PyData.canLayAll0]
    rw [plc_ok, plc_ok]
    rfl
  · simp only [PyData.depth, dS, PyData.depthAll]
    omega
theorem anyS (s t u : S) : ([dS t, dS u].any fun z => PyData.eqv z (dS s)) = decide (s = t ∨ s = u) := by
  simp only [List.any_cons, List.any_nil, Bool.or_false, eqS]
  rw [Bool.eq_iff_iff]
  simp only [Bool.or_eq_true, decide_eq_true_eq]
  exact ⟨fun z => z.elim (fun z => .inl z.symm) (fun z => .inr z.symm), fun z => z.elim (fun z => .inl z.symm) (fun z => .inr z.symm)⟩
theorem StV.dp2 {K : PySem.W.Frag} {H : Hp} {a b q : Addr} {s t : S} (h1 : WT K a (sV s)) (h2 : WT K b (sV t)) (hq : H q = some (.tup [.ref a, .ref b])) : Dp K H (.ref q) (.tuple [dS s, dS t]) :=
  .tup (SqT.of hq) (.cons (StV.wt h1).dp (.cons (StV.wt h2).dp .nil))
def one (x : Str) : Option Nat := x.cps[0]?
def gOf (p : P8) : RaM.G := ⟨one p.pt, one p.cm, p.rs.toNat, p.mu, decide (p.sg = "ahead"), decide (p.sg = "behind"), p.ze, p.bl, p.ex⟩
theorem P8.Dom.pts {p : P8} (h : p.Dom) : p.pt = "." ∨ p.pt = "," ∨ p.pt = "" := by simpa [ptL] using h.pt
theorem P8.Dom.cms {p : P8} (h : p.Dom) : p.cm = "." ∨ p.cm = "," ∨ p.cm = "'" ∨ p.cm = " " ∨ p.cm = "" := by simpa [cmL] using h.cm
theorem P8.Dom.sgs {p : P8} (h : p.Dom) : p.sg = "none" ∨ p.sg = "ahead" ∨ p.sg = "behind" := by simpa [sgL] using h.sg
theorem P8.Dom.rss {p : P8} (h : p.Dom) : p.rs = 3 ∨ p.rs = 2 := by simpa [rsL] using h.rs
theorem P8.Dom.onept {p : P8} (h : p.Dom) : (p.pt = "." ∧ one p.pt = some 46) ∨ (p.pt = "," ∧ one p.pt = some 44) ∨ (p.pt = "" ∧ one p.pt = none) := by
  rcases h.pts with z | z | z
  · exact .inl ⟨z, by rw [z]; decide +kernel⟩
  · exact .inr (.inl ⟨z, by rw [z]; decide +kernel⟩)
  · exact .inr (.inr ⟨z, by rw [z]; decide +kernel⟩)
theorem P8.Dom.onecm {p : P8} (h : p.Dom) : (p.cm = "." ∧ one p.cm = some 46) ∨ (p.cm = "," ∧ one p.cm = some 44) ∨ (p.cm = "'" ∧ one p.cm = some 39) ∨ (p.cm = " " ∧ one p.cm = some 32) ∨ (p.cm = "" ∧ one p.cm = none) := by
  rcases h.cms with z | z | z | z | z
  · exact .inl ⟨z, by rw [z]; decide +kernel⟩
  · exact .inr (.inl ⟨z, by rw [z]; decide +kernel⟩)
  · exact .inr (.inr (.inl ⟨z, by rw [z]; decide +kernel⟩))
  · exact .inr (.inr (.inr (.inl ⟨z, by rw [z]; decide +kernel⟩)))
  · exact .inr (.inr (.inr (.inr ⟨z, by rw [z]; decide +kernel⟩)))
theorem one_some {c d : Nat} : one (⟨#[c]⟩ : Str) = some d ↔ c = d := by
  show (some c = some d) ↔ _
  exact Option.some_inj
theorem str_one {c d : Nat} : (⟨#[c]⟩ : Str) = ⟨#[d]⟩ ↔ c = d := ⟨fun h => by have := Option.some.inj (congrArg one h); exact this, fun h => by rw [h]⟩
theorem oneStr {x : Str} {c d : Nat} (hx : x = ⟨#[d]⟩) : (⟨#[c]⟩ : Str) = x ↔ some d = some c := by
  rw [hx, str_one, Option.some_inj]
  exact ⟨Eq.symm, Eq.symm⟩
theorem noneStr {x : Str} {c : Nat} (hx : x = ⟨#[]⟩) : (⟨#[c]⟩ : Str) = x ↔ (none : Option Nat) = some c := by
  rw [hx]
  exact ⟨(fun h => nomatch (show some c = none from congrArg one h)), (fun h => nomatch h)⟩
theorem s46 : ("." : Str) = ⟨#[46]⟩ := by decide +kernel
theorem s44 : ("," : Str) = ⟨#[44]⟩ := by decide +kernel
theorem s39 : ("'" : Str) = ⟨#[39]⟩ := by decide +kernel
theorem s32 : (" " : Str) = ⟨#[32]⟩ := by decide +kernel
theorem s45 : ("-" : Str) = ⟨#[45]⟩ := by decide +kernel
theorem s101 : ("e" : Str) = ⟨#[101]⟩ := by decide +kernel
theorem s48 : ("0" : Str) = ⟨#[48]⟩ := by decide +kernel
theorem s0 : ("" : Str) = ⟨#[]⟩ := by decide +kernel
/-- the sign is the point -/
theorem P8.Dom.isPt {p : P8} (h : p.Dom) (c : Nat) : decide (V.str ⟨#[c]⟩ = V.str p.pt) = decide ((gOf p).pt = some c) := by
  refine decide_eq_decide.mpr (Iff.trans ⟨V.str.inj, fun z => by rw [z]⟩ ?_)
  show _ ↔ one p.pt = some c
  rcases h.onept with ⟨z, e⟩ | ⟨z, e⟩ | ⟨z, e⟩ <;> rw [e]
  · exact oneStr (z.trans s46)
  · exact oneStr (z.trans s44)
  · exact noneStr (z.trans s0)
theorem P8.Dom.isCm {p : P8} (h : p.Dom) (c : Nat) : decide (V.str ⟨#[c]⟩ = V.str p.cm) = decide ((gOf p).cm = some c) := by
  refine decide_eq_decide.mpr (Iff.trans ⟨V.str.inj, fun z => by rw [z]⟩ ?_)
  show _ ↔ one p.cm = some c
  rcases h.onecm with ⟨z, e⟩ | ⟨z, e⟩ | ⟨z, e⟩ | ⟨z, e⟩ | ⟨z, e⟩ <;> rw [e]
  · exact oneStr (z.trans s46)
  · exact oneStr (z.trans s44)
  · exact oneStr (z.trans s39)
  · exact oneStr (z.trans s32)
  · exact noneStr (z.trans s0)
theorem P8.Dom.noCm {p : P8} (h : p.Dom) : decide (V.str p.cm = V.str "") = decide ((gOf p).cm = none) := by
  refine decide_eq_decide.mpr (Iff.trans ⟨V.str.inj, fun z => by rw [z]⟩ ?_)
  show _ ↔ one p.cm = none
  rcases h.onecm with ⟨z, e⟩ | ⟨z, e⟩ | ⟨z, e⟩ | ⟨z, e⟩ | ⟨z, e⟩ <;> rw [e, z] <;> decide +kernel
theorem P8.Dom.noPt {p : P8} (h : p.Dom) : decide (V.str p.pt = V.str "") = decide ((gOf p).pt = none) := by
  refine decide_eq_decide.mpr (Iff.trans ⟨V.str.inj, fun z => by rw [z]⟩ ?_)
  show _ ↔ one p.pt = none
  rcases h.onept with ⟨z, e⟩ | ⟨z, e⟩ | ⟨z, e⟩ <;> rw [e, z] <;> decide +kernel
theorem isStr {c d : Nat} {x : Str} (h : x = ⟨#[d]⟩) : decide (V.str ⟨#[c]⟩ = V.str x) = decide (c = d) := by
  rw [h]
  exact decide_eq_decide.mpr ⟨fun z => str_one.mp (V.str.inj z), fun z => by rw [z]⟩
theorem gOf_ok {p : P8} (h : p.Ok) : (gOf p).Ok where
  pt := fun c e => by
    have e' : one p.pt = some c := e
    rcases h.onept with ⟨z, e2⟩ | ⟨z, e2⟩ | ⟨z, e2⟩ <;> rw [e2] at e' <;> cases e'
    · exact .inl rfl
    · exact .inr rfl
  cm := fun c e => by
    have e' : one p.cm = some c := e
    rcases h.onecm with ⟨z, e2⟩ | ⟨z, e2⟩ | ⟨z, e2⟩ | ⟨z, e2⟩ | ⟨z, e2⟩ <;> rw [e2] at e' <;> cases e' <;> simp
  ne := fun c e e2 => by
    have e' : one p.pt = some c := e
    have e2' : one p.cm = some c := e2
    have hx : p.cm ≠ "" := fun z => by rw [z] at e2'; revert e2'; exact fun z => nomatch (show (none : Option Nat) = some c from z)
    have hne : p.cm ≠ p.pt := h.ne.elim (fun z => absurd z hx) id
    rcases h.onept with ⟨z, e3⟩ | ⟨z, e3⟩ | ⟨z, e3⟩ <;> rw [e3] at e' <;> cases e' <;>
      rcases h.onecm with ⟨z2, e4⟩ | ⟨z2, e4⟩ | ⟨z2, e4⟩ | ⟨z2, e4⟩ | ⟨z2, e4⟩ <;> rw [e4] at e2' <;> cases e2' <;> exact hne (z2.trans z.symm)
  nb := fun e e2 => by
    have e2' : one p.cm = some 32 := e2
    refine h.nb ⟨e, ?_⟩
    rcases h.onecm with ⟨z2, e4⟩ | ⟨z2, e4⟩ | ⟨z2, e4⟩ | ⟨z2, e4⟩ | ⟨z2, e4⟩ <;> rw [e4] at e2' <;> cases e2'
    exact z2
  rest := by
    show p.rs.toNat = 2 ∨ p.rs.toNat = 3
    rcases h.rss with z | z <;> rw [z]
    · exact .inr rfl
    · exact .inl rfl
  one := fun z => by
    have z1 : p.sg = "ahead" := of_decide_eq_true z.1
    have z2 : p.sg = "behind" := of_decide_eq_true z.2
    rw [z1] at z2
    exact absurd z2 (by decide +kernel)
theorem P8.Dom.rsN {p : P8} (h : p.Dom) : ((gOf p).rest : Int) = p.rs := by
  show ((p.rs.toNat : Nat) : Int) = p.rs
  rcases h.rss with z | z <;> rw [z] <;> rfl
theorem isFig_mem (c : Nat) : decide (c ∈ ("0123456789" : Str).cps.toList) = RaM.isFig c := by
  have e : ("0123456789" : Str).cps.toList = [48, 49, 50, 51, 52, 53, 54, 55, 56, 57] := by decide +kernel
  rw [e, Bool.eq_iff_iff]
  simp [RaM.isFig]
  omega
end Ra

/-! RaMore: where a reader stops, with a bound on the length; places in messages. -/
namespace Ra
open PySem PySem.Spec PyProof.Rows L2 RaX
theorem nat_short : ∀ n : Fin 1001, ((toString ((n.val : Nat) : Int) : String) : Str).length ≤ 2000 := by decide +kernel
theorem vok_nat {n : Nat} (h : n ≤ 1000) : VOk (.int (n : Nat)) := fun u r => by
  obtain ⟨t, rfl⟩ := r
  intro prog w A E s Q q
  refine wpAny_formatField_int ?_ (q _ _ _ (nat_short ⟨n, by omega⟩))
  have : ((n : Nat) : Int).natAbs = n := by omega
  rw [this]
  exact Nat.lt_of_le_of_lt (Nat.log2_le_self n) (by omega)
/-- where the reader stops: none if it takes the text -/
def stopAt (g : RaM.G) : RaM.S → Nat → List Nat → Option Nat
  | s, n, [] => if RaM.lack s = 0 then none else some n
  | s, n, c :: t => match RaM.step g s c with
    | none => some n
    | some s' => if 100 < n + 1 + RaM.lack s' then some n else stopAt g s' (n + 1) t
def stopV : Option Nat → V
  | none => .non
  | some n => .int (n : Nat)
theorem stopAt_none {g : RaM.G} {s : RaM.S} {n : Nat} : stopAt g s n [] = if RaM.lack s = 0 then none else some n := rfl
theorem lack_le (s : RaM.S) : RaM.lack s ≤ 3 := by
  cases s <;> simp only [RaM.lack] <;> omega
theorem stop_takes {g : RaM.G} : ∀ (t : List Nat) (s : RaM.S) (n : Nat), n + t.length ≤ 97 → (stopAt g s n t = none ↔ ∃ s', RaM.run g s t = some s' ∧ RaM.lack s' = 0)
  | [], s, n, _ => by
    rw [stopAt_none]
    by_cases h : RaM.lack s = 0
    · rw [if_pos h]
      exact ⟨fun _ => ⟨s, rfl, h⟩, fun _ => rfl⟩
    · rw [if_neg h]
      exact ⟨fun z => (nomatch z), fun ⟨s', e, z⟩ => absurd (by cases e; exact z) h⟩
  | c :: t, s, n, hl => by
    show (match RaM.step g s c with | none => some n | some s' => if 100 < n + 1 + RaM.lack s' then some n else stopAt g s' (n + 1) t) = none ↔ ∃ s', ((RaM.step g s c).bind fun s' => RaM.run g s' t) = some s' ∧ RaM.lack s' = 0
    have hl' : n + (t.length + 1) ≤ 97 := hl
    cases e : RaM.step g s c with
    | none => exact ⟨fun z => (nomatch z), fun ⟨s', e, _⟩ => (nomatch e)⟩
    | some s' =>
      have := lack_le s'
      show (if 100 < n + 1 + RaM.lack s' then some n else stopAt g s' (n + 1) t) = none ↔ _
      rw [if_neg (by omega)]
      exact stop_takes t s' (n + 1) (by omega)
theorem fig_ok {g : RaM.G} {s s' : RaM.S} {c : Nat} (h : RaM.stepFig g s c = some s') : SOk s' := by
  cases s <;> simp only [RaM.stepFig] at h
  case start => split at h <;> (cases h; trivial)
  case minus => split at h <;> (cases h; trivial)
  case nought => cases h
  case plain n =>
    split at h
    · cases h
    · cases h; trivial
  case group n =>
    split at h
    · rename_i hn
      cases h
      exact hn
    · cases h
  case point => cases h; trivial
  case frac => cases h; trivial
  case letter => cases h; trivial
  case less => cases h; trivial
  case power n =>
    split at h
    · cases h; trivial
    · cases h
  case turned => cases h
  case fin => cases h
theorem step_ok {g : RaM.G} {s s' : RaM.S} {c : Nat} (h : RaM.step g s c = some s') (so : SOk s) : SOk s' := by
  unfold RaM.step at h
  split at h
  · exact fig_ok h
  split at h
  · cases s <;> simp only [RaM.stepMinus] at h <;> first | (split at h <;> first | (cases h; trivial) | cases h) | (cases h; trivial) | cases h
  split at h
  · unfold RaM.stepLetter at h
    split at h
    · cases h; trivial
    · cases h
  split at h
  · unfold RaM.stepBlank at h
    split at h
    · cases h; trivial
    · split at h
      · cases h; trivial
      · cases h
  split at h
  · split at h
    · cases h; trivial
    · cases h
  split at h
  · cases s <;> simp only [RaM.stepComma] at h <;> first | (split at h <;> first | (cases h; exact Nat.zero_le _) | cases h) | cases h
  · cases h
end Ra

/-! RaChk: values that are handed in, and what the checks say of them (law-free). -/
namespace Ra
open PySem PySem.Spec PyProof.Rows L2 RaX
/-- no name of the top is one of the built-ins that the texts use -/
structure TBl (mg : Str → Option Value) : Prop where
  int : mg "int" = none
  len : mg "len" = none
  isi : mg "isinstance" = none
  bool : mg "bool" = none
  any : mg "any" = none
  zip : mg "zip" = none
  range : mg "range" = none
  list : mg "list" = none
  tuple : mg "tuple" = none
  min : mg "min" = none
  max : mg "max" = none
  str : mg "str" = none
  en : mg "enumerate" = none
  all : mg "all" = none
  set : mg "set" = none
  sum : mg "sum" = none
  abs : mg "abs" = none
  sorted : mg "sorted" = none
  dict : mg "dict" = none
  rev : mg "reversed" = none
theorem tyOf_same {K : PySem.W.Frag} {H H' : Hp} {v : V} {t : Value} (h : TyOf K H v t) (s : Same H H') : TyOf K H' v t := by
  cases h with
  | non => exact .non
  | bl x => exact .bl x
  | int i => exact .int i
  | str x => exact .str x
  | flt x => exact .flt x
  | lst e => exact .lst (s _ _ e)
  | frz e => exact .frz (s _ _ e)
  | tup e => exact .tup (s _ _ e)
  | dK e => exact .dK (s _ _ e)
  | dT e => exact .dT (s _ _ e)
  | ins e a b c d f => exact .ins (s _ _ e) a b c d f
theorem tyX_same {K : PySem.W.Frag} {H H' : Hp} {v : V} {t : Value} (h : TyX K H v t) (s : Same H H') : TyX K H' v t := by
  cases h with
  | base h => exact .base (tyOf_same h s)
  | byt b => exact .byt b
  | set e => exact .set (s _ _ e)
  | kList e c => exact .kList e c
  | kTuple e c => exact .kTuple e c
  | kDict e c => exact .kDict e c
  | fTuple e => exact .fTuple (s _ _ e)
  | fDict e => exact .fDict (s _ _ e)
theorem isiTK {X : Cx} {K : PySem.W.Frag} (h : X.K = K := by rfl) : CallR X (.builtin "isinstance") (rIsiT K) := by
  rw [← h]
  exact call_isiT
/-- a value of another type than n -/
def NotTy (K : PySem.W.Frag) (H : Hp) (v : V) (n : String) : Prop := ∃ t, TyX K H v t ∧ PySem.W.kitOne K t (.type n) = some false
theorem NotTy.same {K : PySem.W.Frag} {H H' : Hp} {v : V} {n : String} (h : NotTy K H v n) (s : Same H H') : NotTy K H' v n := by
  obtain ⟨t, a, b⟩ := h
  exact ⟨t, tyX_same a s, b⟩
theorem NotTy.of {K : PySem.W.Frag} {H : Hp} {v : V} {a n : String} (h : TyX K H v (.type a)) (k : kitB a n = some false) : NotTy K H v n := ⟨_, h, kit_ty k⟩
/-- is it an int, and no truth value -/
def PlI (K : PySem.W.Frag) (H : Hp) (v : V) (b : Bool) : Prop := (∃ i, v = .int i ∧ b = true) ∨ (∃ x, v = .bl x ∧ b = false) ∨ (NotTy K H v "int" ∧ b = false)
theorem PlI.same {K : PySem.W.Frag} {H H' : Hp} {v : V} {b : Bool} (h : PlI K H v b) (s : Same H H') : PlI K H' v b := by
  rcases h with h | h | ⟨h, e⟩
  · exact .inl h
  · exact .inr (.inl h)
  · exact .inr (.inr ⟨h.same s, e⟩)
def spPI (K : PySem.W.Frag) : Sp := fun vs H Q _ => ∃ v b, vs = [v] ∧ PlI K H v b ∧ Q (.bl b) H
/-- a pair of ints that is a number within the limits -/
def numOk (n k : Int) : Bool := if n = 0 then decide (k = 0) else decide (n % 10 ≠ 0) && (decide ((if n < 0 then -n else n) ≤ 1000000000000000000000000000000) && decide ((if k < 0 then -k else k) ≤ 30))
/-- is it a number -/
def NumV (K : PySem.W.Frag) (H : Hp) (v : V) (b : Bool) : Prop :=
  (NotTy K H v "tuple" ∧ b = false) ∨ (∃ t xs, v = .ref t ∧ H t = some (.tup xs) ∧ xs.length ≠ 2 ∧ b = false) ∨
  (∃ t x y a c, v = .ref t ∧ H t = some (.tup [x, y]) ∧ PlI K H x a ∧ PlI K H y c ∧ (a && c) = false ∧ b = false) ∨ ∃ t n k, v = .ref t ∧ H t = some (.tup [.int n, .int k]) ∧ b = numOk n k
theorem NumV.same {K : PySem.W.Frag} {H H' : Hp} {v : V} {b : Bool} (h : NumV K H v b) (s : Same H H') : NumV K H' v b := by
  rcases h with ⟨h, e⟩ | ⟨t, xs, h1, h2, h3⟩ | ⟨t, x, y, a, c, h1, h2, h3, h4, h5⟩ | ⟨t, n, k, h1, h2, h3⟩
  · exact .inl ⟨h.same s, e⟩
  · exact .inr (.inl ⟨t, xs, h1, s _ _ h2, h3⟩)
  · exact .inr (.inr (.inl ⟨t, x, y, a, c, h1, s _ _ h2, h3.same s, h4.same s, h5⟩))
  · exact .inr (.inr (.inr ⟨t, n, k, h1, s _ _ h2, h3⟩))
def spIN (K : PySem.W.Frag) : Sp := fun vs H Q _ => ∃ v b, vs = [v] ∧ NumV K H v b ∧ Q (.bl b) H
def spCN (K : PySem.W.Frag) (CN : Addr) : Sp := fun vs H Q E => ∃ v b, vs = [v] ∧ NumV K H v b ∧ (b = true → Q .non H) ∧ (b = false → E (.ref CN) none H)
/-- an index, or None -/
def oixV : Option Nat → V
  | none => .non
  | some n => .int (n : Nat)
theorem vok_non : VOk .non := fun u r => by
  have e : u = Value.none := r
  subst e
  intro prog w A E s Q q
  exact wpAny_formatField_none (q _ _ _ (by decide))
/-- the error of class C with such an index -/
def EIx (C : Addr) (E : XK) (H : Hp) (o : Option Nat) : Prop := ∀ d H', Same H H' → H' d = some (.xd [(("index" : Str), oixV o)]) → E (.ref C) (some d) H'
/-- neither a list nor a tuple -/
def NoSeq (K : PySem.W.Frag) (H : Hp) (v : V) : Prop := ∃ t, TyX K H v t ∧ PySem.W.kitAny K t [.type "list", .type "tuple"] = some false
def SeqV (H : Hp) (a : Addr) (xs : List V) : Prop := H a = some (.lst xs) ∨ H a = some (.tup xs)
theorem NoSeq.same {K : PySem.W.Frag} {H H' : Hp} {v : V} (h : NoSeq K H v) (s : Same H H') : NoSeq K H' v := by
  obtain ⟨t, a, b⟩ := h
  exact ⟨t, tyX_same a s, b⟩
theorem SeqV.same {H H' : Hp} {a : Addr} {xs : List V} (h : SeqV H a xs) (s : Same H H') : SeqV H' a xs := h.elim (fun h => .inl (s _ _ h)) fun h => .inr (s _ _ h)
theorem SeqV.ty {K : PySem.W.Frag} {H : Hp} {a : Addr} {xs : List V} (h : SeqV H a xs) : ∃ t, TyX K H (.ref a) t ∧ PySem.W.kitAny K t [.type "list", .type "tuple"] = some true := by
  rcases h with h | h
  · exact ⟨_, .base (.lst h), kitAny_cons (kit_ty (r := true) (by decide +kernel)) (fun z => Bool.noConfusion z) fun _ => rfl⟩
  · exact ⟨_, .base (.tup h), kitAny_cons (kit_ty (r := false) (by decide +kernel)) (fun _ => kitAny_cons (kit_ty (r := true) (by decide +kernel)) (fun z => Bool.noConfusion z) fun _ => rfl) fun z => Bool.noConfusion z⟩
theorem SeqV.sq {K : PySem.W.Frag} {H : Hp} {a : Addr} {xs : List V} (h : SeqV H a xs) : SqL K H a xs ∨ SqT K H a xs := h.elim (fun h => .inl (SqL.of h)) fun h => .inr (SqT.of h)
/-- a value that is no text -/
def TxtBad (K : PySem.W.Frag) (H : Hp) (v : V) : Prop := (∃ x : Str, v = .str x ∧ 100 < x.length ∧ x.length ≤ sizeLine) ∨ ∃ t, TyX K H v t ∧ PySem.W.kitOne K t (.type "str") = some false
theorem TxtBad.same {K : PySem.W.Frag} {H H' : Hp} {v : V} (h : TxtBad K H v) (s : Same H H') : TxtBad K H' v := by
  rcases h with h | ⟨t, a, b⟩
  · exact .inl h
  · exact .inr ⟨t, tyX_same a s, b⟩
def TxtOk (v : V) : Prop := ∃ x : Str, v = .str x ∧ x.length ≤ 100
def spIT (K : PySem.W.Frag) : Sp := fun vs H Q _ => ∃ v, vs = [v] ∧ ((TxtBad K H v ∧ Q (.bl false) H) ∨ ∃ x : Str, v = .str x ∧ x.length ≤ 100 ∧ Q (.bl true) H)
def spCT (K : PySem.W.Frag) (CT : Addr) : Sp := fun vs H Q E => ∃ v, vs = [v] ∧ ((TxtBad K H v ∧ E (.ref CT) none H) ∨ ∃ x : Str, v = .str x ∧ x.length ≤ 100 ∧ Q .non H)
/-- items in a row: what a check of all of them says; P: an item is good, N: it is bad, lo to hi of them -/
def SeqChk (K : PySem.W.Frag) (C : Addr) (lo hi : Nat) (P : Hp → V → Prop) (N : Hp → V → Prop) (v : V) (H : Hp) (Q : VK) (E : XK) : Prop :=
  (NoSeq K H v ∧ EIx C E H none) ∨ (∃ a xs, v = .ref a ∧ SeqV H a xs ∧ ¬ (lo ≤ xs.length ∧ xs.length ≤ hi) ∧ EIx C E H none) ∨
  (∃ a xs i x, v = .ref a ∧ H a = some (.lst xs) ∧ lo ≤ xs.length ∧ xs.length ≤ hi ∧ xs[i]? = some x ∧ (∀ j y, j < i → xs[j]? = some y → P H y) ∧ N H x ∧ EIx C E H (some i)) ∨
  ∃ a xs, v = .ref a ∧ H a = some (.lst xs) ∧ lo ≤ xs.length ∧ xs.length ≤ hi ∧ (∀ y ∈ xs, P H y) ∧ ∀ H', Same H H' → Q .non H'
def spCTs (K : PySem.W.Frag) (C : Addr) : Sp := fun vs H Q E => ∃ v, vs = [v] ∧ SeqChk K C 1 20 (fun _ x => TxtOk x) (TxtBad K) v H Q E
/-- a number, or None -/
def NumOrN (K : PySem.W.Frag) (H : Hp) (v : V) : Prop := v = .non ∨ (v ≠ .non ∧ NumV K H v true)
def spCNs (K : PySem.W.Frag) (C : Addr) : Sp := fun vs H Q E => ∃ v m, vs = [v, .int (m : Nat)] ∧ m ≤ 1000 ∧ SeqChk K C m m (NumOrN K) (fun H x => x ≠ .non ∧ NumV K H x false) v H Q E
/-- a row that is refused: where -/
inductive BadSeq (K : PySem.W.Frag) (lo hi : Nat) (P N : Hp → V → Prop) (v : V) (H : Hp) : Option Nat → Prop
  | no (h : NoSeq K H v) : BadSeq K lo hi P N v H none
  | len {a : Addr} {xs : List V} (e : v = .ref a) (h : SeqV H a xs) (n : ¬ (lo ≤ xs.length ∧ xs.length ≤ hi)) : BadSeq K lo hi P N v H none
  | item {a : Addr} {xs : List V} {i : Nat} {x : V} (e : v = .ref a) (h : H a = some (.lst xs)) (h1 : lo ≤ xs.length) (h2 : xs.length ≤ hi) (hx : xs[i]? = some x) (hg : ∀ j y, j < i → xs[j]? = some y → P H y) (hb : N H x) : BadSeq K lo hi P N v H (some i)
def GoodSeq (lo hi : Nat) (P : Hp → V → Prop) (v : V) (H : Hp) (xs : List V) : Prop := ∃ a, v = .ref a ∧ H a = some (.lst xs) ∧ lo ≤ xs.length ∧ xs.length ≤ hi ∧ ∀ y ∈ xs, P H y
section
variable {K : PySem.W.Frag} {C : Addr} {lo hi : Nat} {P N : Hp → V → Prop} {v : V} {H H' : Hp} {Q : VK} {E : XK} {o : Option Nat} {xs : List V}
theorem BadSeq.chk (b : BadSeq K lo hi P N v H o) (e : EIx C E H o) : SeqChk K C lo hi P N v H Q E := by
  cases b with
  | no h => exact .inl ⟨h, e⟩
  | len ev h n => exact .inr (.inl ⟨_, _, ev, h, n, e⟩)
  | item ev h h1 h2 hx hg hb => exact .inr (.inr (.inl ⟨_, _, _, _, ev, h, h1, h2, hx, hg, hb, e⟩))
theorem GoodSeq.chk (g : GoodSeq lo hi P v H xs) (k : ∀ H', Same H H' → Q .non H') : SeqChk K C lo hi P N v H Q E := by
  obtain ⟨a, ev, h, h1, h2, hg⟩ := g
  exact .inr (.inr (.inr ⟨a, xs, ev, h, h1, h2, hg, k⟩))
theorem BadSeq.same (hP : ∀ x, P H x → P H' x) (hN : ∀ x, N H x → N H' x) (b : BadSeq K lo hi P N v H o) (s : Same H H') : BadSeq K lo hi P N v H' o := by
  cases b with
  | no h => exact .no (h.same s)
  | len ev h n => exact .len ev (h.same s) n
  | item ev h h1 h2 hx hg hb => exact .item ev (s _ _ h) h1 h2 hx (fun j y hj hy => hP y (hg j y hj hy)) (hN _ hb)
theorem GoodSeq.same (hP : ∀ x, P H x → P H' x) (g : GoodSeq lo hi P v H xs) (s : Same H H') : GoodSeq lo hi P v H' xs := by
  obtain ⟨a, ev, h, h1, h2, hg⟩ := g
  exact ⟨a, ev, s _ _ h, h1, h2, fun y hy => hP y (hg y hy)⟩
end
theorem NumOrN.same {K : PySem.W.Frag} {H H' : Hp} {v : V} (h : NumOrN K H v) (s : Same H H') : NumOrN K H' v := h.elim .inl fun h => .inr ⟨h.1, h.2.same s⟩
abbrev BadTxts (K : PySem.W.Frag) (v : V) (H : Hp) (o : Option Nat) : Prop := BadSeq K 1 20 (fun _ x => TxtOk x) (TxtBad K) v H o
abbrev BadNums (K : PySem.W.Frag) (m : Nat) (v : V) (H : Hp) (o : Option Nat) : Prop := BadSeq K m m (NumOrN K) (fun H x => x ≠ .non ∧ NumV K H x false) v H o
theorem BadTxts.same {K : PySem.W.Frag} {v : V} {H H' : Hp} {o : Option Nat} (b : BadTxts K v H o) (s : Same H H') : BadTxts K v H' o := BadSeq.same (fun _ h => h) (fun _ h => h.same s) b s
theorem BadNums.same {K : PySem.W.Frag} {m : Nat} {v : V} {H H' : Hp} {o : Option Nat} (b : BadNums K m v H o) (s : Same H H') : BadNums K m v H' o := BadSeq.same (fun _ h => h.same s) (fun _ h => ⟨h.1, h.2.same s⟩) b s
/-- texts, and numbers for them, are refused -/
def FitRef (K : PySem.W.Frag) (v u : V) (H : Hp) (R : Str → Option Nat → Prop) : Prop :=
  (∃ o, BadTxts K v H o ∧ R "texts" o) ∨ ∃ xs o, GoodSeq 1 20 (fun _ x => TxtOk x) v H xs ∧ BadNums K xs.length u H o ∧ R "numbers" o
def spFit (K : PySem.W.Frag) (CT CN : Addr) : Sp := fun vs H _ E => ∃ v u, vs = [v, u] ∧ FitRef K v u H fun nm o => EIx (if nm = "texts" then CT else CN) E H o
/-! ### across draws -/
theorem RowOk.notL {K : PySem.W.Frag} {H : Hp} {a b : Addr} {u : HO} (R : RowOk K H a) (h : H b = Option.some u) (n : ∀ xs, u ≠ .lst xs) : b ≠ a := fun z => by
  obtain ⟨xs, e⟩ := R.some
  rw [z, e] at h
  cases h
  exact n _ rfl
theorem tyX_but {K : PySem.W.Frag} {H H' : Hp} {a : Addr} {v : V} {t : Value} (h : TyX K H v t) (R : RowOk K H a) (R' : RowOk K H' a) (s : But a H H') : TyX K H' v t := by
  have go : ∀ {b : Addr} {u : HO}, H b = some u → (∀ xs, u ≠ .lst xs) → H' b = some u := fun e n => s _ _ (R.notL e n) e
  cases h with
  | base h =>
    refine .base ?_
    cases h with
    | non => exact .non
    | bl x => exact .bl x
    | int i => exact .int i
    | str x => exact .str x
    | flt x => exact .flt x
    | @lst b xs e =>
      by_cases hb : b = a
      · obtain ⟨ys, e2⟩ := R'.some
        rw [hb]
        exact .lst e2
      · exact .lst (s _ _ hb e)
    | frz e => exact .frz (go e fun _ z => nomatch z)
    | tup e => exact .tup (go e fun _ z => nomatch z)
    | dK e => exact .dK (go e fun _ z => nomatch z)
    | dT e => exact .dT (go e fun _ z => nomatch z)
    | ins e c d f g i => exact .ins (go e fun _ z => nomatch z) c d f g i
  | byt b => exact .byt b
  | set e => exact .set (go e fun _ z => nomatch z)
  | kList e c => exact .kList e c
  | kTuple e c => exact .kTuple e c
  | kDict e c => exact .kDict e c
  | fTuple e => exact .fTuple (go e fun _ z => nomatch z)
  | fDict e => exact .fDict (go e fun _ z => nomatch z)
theorem NotTy.but {K : PySem.W.Frag} {H H' : Hp} {a : Addr} {v : V} {n : String} (h : NotTy K H v n) (R : RowOk K H a) (R' : RowOk K H' a) (s : But a H H') : NotTy K H' v n := by
  obtain ⟨t, x, y⟩ := h
  exact ⟨t, tyX_but x R R' s, y⟩
theorem PlI.but {K : PySem.W.Frag} {H H' : Hp} {a : Addr} {v : V} {b : Bool} (h : PlI K H v b) (R : RowOk K H a) (R' : RowOk K H' a) (s : But a H H') : PlI K H' v b := by
  rcases h with h | h | ⟨h, e⟩
  · exact .inl h
  · exact .inr (.inl h)
  · exact .inr (.inr ⟨h.but R R' s, e⟩)
theorem NumV.but {K : PySem.W.Frag} {H H' : Hp} {a : Addr} {v : V} {b : Bool} (h : NumV K H v b) (R : RowOk K H a) (R' : RowOk K H' a) (s : But a H H') : NumV K H' v b := by
  have go : ∀ {b : Addr} {xs : List V}, H b = some (.tup xs) → H' b = some (.tup xs) := fun e => s _ _ (R.tup e) e
  rcases h with ⟨h, e⟩ | ⟨t, xs, h1, h2, h3⟩ | ⟨t, x, y, c, d, h1, h2, h3, h4, h5⟩ | ⟨t, n, k, h1, h2, h3⟩
  · exact .inl ⟨h.but R R' s, e⟩
  · exact .inr (.inl ⟨t, xs, h1, go h2, h3⟩)
  · exact .inr (.inr (.inl ⟨t, x, y, c, d, h1, go h2, h3.but R R' s, h4.but R R' s, h5⟩))
  · exact .inr (.inr (.inr ⟨t, n, k, h1, go h2, h3⟩))
theorem TxtBad.but {K : PySem.W.Frag} {H H' : Hp} {a : Addr} {v : V} (h : TxtBad K H v) (R : RowOk K H a) (R' : RowOk K H' a) (s : But a H H') : TxtBad K H' v := by
  rcases h with h | ⟨t, x, y⟩
  · exact .inl h
  · exact .inr ⟨t, tyX_but x R R' s, y⟩
theorem NoSeq.of {K : PySem.W.Frag} {H : Hp} {v : V} {n : String} (h : TyX K H v (.type n)) (k1 : kitB n "list" = some false) (k2 : kitB n "tuple" = some false) : NoSeq K H v :=
  ⟨_, h, kitAny_cons (kit_ty k1) (fun _ => kitAny_cons (kit_ty k2) (fun _ => rfl) fun z => Bool.noConfusion z) fun z => Bool.noConfusion z⟩
/-! ### rows of one thing, cut -/
theorem cut_pre {n j : Nat} {x : V} (h : j ≤ n) : cutV (List.replicate n x) none (some (j : Int)) = List.replicate j x := by
  unfold cutV
  rw [List.length_replicate, HT.sIx_none, HT.sIx_nat]
  simp [Nat.min_eq_left h]
theorem cut_post {n j : Nat} {x : V} (h : j < n) : cutV (List.replicate n x) (some ((j : Int) + 1)) none = List.replicate (n - (j + 1)) x := by
  have e : ((j : Int) + 1) = ((j + 1 : Nat) : Int) := by omega
  unfold cutV
  rw [List.length_replicate, HT.sIx_none, e, HT.sIx_nat, Nat.min_eq_left (by omega)]
  simp
/-- where one thing of a row is another -/
def spoilt (n j : Nat) (x y : V) : List V := List.replicate j x ++ [y] ++ List.replicate (n - (j + 1)) x
theorem spoilt_len {n j : Nat} {x y : V} (h : j < n) : (spoilt n j x y).length = n := by
  simp [spoilt]
  omega
theorem spoilt_at {n j : Nat} {x y : V} : (spoilt n j x y)[j]? = some y := by
  simp [spoilt]
theorem spoilt_lt {n j i : Nat} {x y z : V} (h : i < j) (e : (spoilt n j x y)[i]? = some z) : z = x := by
  unfold spoilt at e
  rw [List.append_assoc, List.getElem?_append_left (by simpa using h)] at e
  simp [h] at e
  exact e.symm
/-- ["texts", 3] == ["texts", 3] -/
theorem told_eq {K : PySem.W.Frag} {H : Hp} {l m : Addr} {nm : Str} {o : Option Nat} (h : H l = some (.lst [.str nm, oixV o])) (g : H m = some (.lst [.str nm, oixV o])) (ok : PyData.strOk nm = true) :
    ∃ d, Dp K H (.ref l) d ∧ Dp K H (.ref m) d ∧ SeqAt.shaped d = true := by
  have go : ∀ e, Dp K H (oixV o) e → SeqAt.shaped (.list [.str nm, e]) = true → ∃ d, Dp K H (.ref l) d ∧ Dp K H (.ref m) d ∧ SeqAt.shaped d = true := fun e q s =>
    ⟨_, .lst (SqL.of h) (.cons (.str nm) (.cons q .nil)), .lst (SqL.of g) (.cons (.str nm) (.cons q .nil)), s⟩
  cases o with
  | none =>
    refine go .none .non (Bool.and_eq_true_iff.mpr ⟨?_, decide_eq_true ?_⟩)
    · simp only [PyData.canLay0, PyData.canLayAll0]
      rw [ok]
      rfl
    · simp only [PyData.depth, PyData.depthAll]
      omega
  | some n =>
    refine go (.int (n : Nat)) (.int _) (Bool.and_eq_true_iff.mpr ⟨?_, decide_eq_true ?_⟩)
    · simp only [PyData.canLay0, PyData.canLayAll0]
      rw [ok]
      rfl
    · simp only [PyData.depth, PyData.depthAll]
      omega
theorem goodT_same {v : V} {H H' : Hp} {xs : List V} (g : GoodSeq 1 20 (fun _ x => TxtOk x) v H xs) (s : Same H H') : GoodSeq 1 20 (fun _ x => TxtOk x) v H' xs := GoodSeq.same (P := fun _ x => TxtOk x) (H := H) (H' := H') (fun _ h => h) g s
end Ra

namespace Ra
open PySem L2 RaX
/-- the top has a def by this name, which keeps sp -/
def Has (P : Program) (w : World) (K : PySem.W.Frag) (mg : Str → Option Value) (base : Heap) (CX : CXT) (n : Nat) (nm : Str) (ps : List Str) (sp : Sp) : Prop := ∃ f fd, FnOk P w K mg base CX n f fd ps sp ∧ GFn K mg nm f fd ps
abbrev sPI : Stmt := top 32
abbrev sIT : Stmt := top 33
abbrev sCT : Stmt := top 27
abbrev sCTs : Stmt := top 28
abbrev sCRs : Stmt := top 17
/-- readers in a row -/
def spCRs (K : PySem.W.Frag) (C CB : Addr) : Sp := fun vs H Q E => ∃ v, vs = [v] ∧ SeqChk K CB 1 4 (fun H x => ∃ r ws, x = .ref r ∧ RdAt C H r ws) (NoRd K C) v H Q E
theorem NoRd.same {K : PySem.W.Frag} {C : Addr} {H H' : Hp} {v : V} (h : NoRd K C H v) (s : Same H H') : NoRd K C H' v := by
  obtain ⟨t, a, b⟩ := h
  exact ⟨t, tyX_same a s, b⟩
abbrev sIN : Stmt := top 31
abbrev sCN : Stmt := top 30
section
variable {P : Program} {w : World} {K : PySem.W.Frag} {mg : Str → Option Value} {base : Heap} {CX : CXT}
theorem scPI : FnScope ["value"] ["value"] (defScope sPI) := ⟨rfl, rfl, rfl, by decide +kernel, rfl, by decide +kernel, by decide +kernel⟩
theorem ok_pi {f : Addr} {fd : FuncData} (F : Fun K "is_plain_integer" "is_plain_integer" sPI f fd) (T : TBl mg) : FnOk P w K mg base CX0 1 f fd ["value"] (spPI K) := by
  refine F.ok scPI (fun vs H Q E h => ?_) (fun cdv A outer s H vs Q E hr h => ?_)
  · obtain ⟨v, b, rfl, _⟩ := h
    rfl
  · obtain ⟨v, b, rfl, hb, k⟩ := h
    refine ⟨_, (pss_one (ps_ret (pe_and (pe_callB isiK rfl T.isi bt_isinstance (pa_cons (pv 0) (pa_cons (pe_bltn (v := .ty "int") rfl T.int bt_int rfl) pa_nil))) (pe_one (pe_not (pe_callB isiK rfl T.isi bt_isinstance (pa_cons (pv 0) (pa_cons (pe_bltn (v := .ty "bool") rfl T.bool bt_bool rfl) pa_nil)))))))), ?_⟩
    have k1 : PySem.W.kitOne K (.type "int") (.type "int") = some true := kit_ty (r := true) (by decide +kernel)
    have k2 : PySem.W.kitOne K (.type "int") (.type "bool") = some false := kit_ty (r := false) (by decide +kernel)
    have k3 : PySem.W.kitOne K (.type "bool") (.type "int") = some true := kit_ty (r := true) (by decide +kernel)
    have k4 : PySem.W.kitOne K (.type "bool") (.type "bool") = some true := kit_ty (r := true) (by decide +kernel)
    rcases hb with ⟨i, rfl, rfl⟩ | ⟨x, rfl, rfl⟩ | ⟨⟨t, y, z⟩, rfl⟩
    · exact ⟨_, rfl, _, _, _, _, true, rfl, .ty "int", .base (.int _), k1, _, rfl, iteT ⟨_, rfl, _, _, _, _, false, rfl, .ty "bool", .base (.int _), k2, _, rfl, k⟩⟩
    · exact ⟨_, rfl, _, _, _, _, true, rfl, .ty "int", .base (.bl _), k3, _, rfl, iteT ⟨_, rfl, _, _, _, _, true, rfl, .ty "bool", .base (.bl _), k4, _, rfl, k⟩⟩
    · exact ⟨_, rfl, _, _, _, _, false, rfl, .ty "int", y, z, _, rfl, iteF k⟩
theorem scIN : FnScope ["value", "n", "k"] ["value"] (defScope sIN) := ⟨rfl, rfl, rfl, by decide +kernel, rfl, by decide +kernel, by decide +kernel⟩
theorem ok_isnum {f f1 : Addr} {fd fd1 : FuncData} {uw up : Value} (F : Fun K "is_number" "is_number" sIN f fd) (T : TBl mg) (mw : mg "MOST_WORTH" = some uw) (rw : RelV (.int 1000000000000000000000000000000) uw) (mp : mg "MOST_POWER" = some up) (rp : RelV (.int 30) up)
    (GI : FnOk P w K mg base CX0 1 f1 fd1 ["value"] (spPI K)) (gI : GFn K mg "is_plain_integer" f1 fd1 ["value"]) : FnOk P w K mg base CX0 2 f fd ["value"] (spIN K) := by
  refine F.ok scIN (fun vs H Q E h => ?_) (fun cdv A outer s H vs Q E hr h => ?_)
  · obtain ⟨v, b, rfl, _⟩ := h
    rfl
  · obtain ⟨v, b, rfl, hb, k⟩ := h
    refine ⟨_, (pss_cons (ps_if (PW.pt (pw_or (pt_not (pt_val (pe_callB isiK rfl T.isi bt_isinstance (pa_cons (pv 0) (pa_cons (pe_bltn (v := .ty "tuple") rfl T.tuple bt_tuple rfl) pa_nil))))) (pw_or1 (pt_cmpR op_ne (pe_callB call_len_seq rfl T.len bt_len (pa_cons (pv 0) pa_nil)) pe_int (nomark _))))) (pss_one (ps_ret pe_bl)) pss_nil)
      (pss_cons (ps_asg (pv 0) (pg_tup rfl (pgs_cons (pg_name (i := 1) scIN.nd rfl (Or.inl rfl)) (pgs_cons (pg_name (i := 2) scIN.nd rfl (Or.inl rfl)) pgs_nil))))
      (pss_cons (ps_if (PW.pt (pw_or (pt_not (pt_val (pe_call GI (hr.mono (by decide)) rfl gI.g gI.k gI.b .nil pass0 (pa_cons (pv 1) pa_nil)))) (pw_or1 (pt_not (pt_val (pe_call GI (hr.mono (by decide)) rfl gI.g gI.k gI.b .nil pass0 (pa_cons (pv 2) pa_nil))))))) (pss_one (ps_ret pe_bl)) pss_nil)
      (pss_cons (ps_if (pt_cmpR op_eq (pv 1) pe_int (nomark _)) (pss_one (ps_ret (pe_cmpR op_eq (pv 2) pe_int (nomark _)))) pss_nil)
      (pss_one (ps_ret (pe_and (pe_cmpR op_ne (pe_op op_mod (pv 1) pe_int) pe_int (nomark _)) (pe_and (pe_cmpR op_le (pe_callB call_abs rfl T.abs bt_abs (pa_cons (pv 1) pa_nil)) (pe_glob (v := .int 1000000000000000000000000000000) rfl mw rw) (nomark _)) (pe_one (pe_cmpR op_le (pe_callB call_abs rfl T.abs bt_abs (pa_cons (pv 2) pa_nil)) (pe_glob (v := .int 30) rfl mp rp) (nomark _))))))))))), ?_⟩
    have kt : PySem.W.kitOne K (.type "tuple") (.type "tuple") = some true := kit_ty (r := true) (by decide +kernel)
    rcases hb with ⟨⟨t, y, z⟩, rfl⟩ | ⟨t, xs, rfl, ht, hl, rfl⟩ | ⟨t, x, y, a, c, rfl, ht, hx, hy, hac, rfl⟩ | ⟨t, n, m, rfl, ht, rfl⟩
    · exact ⟨_, rfl, _, _, _, _, false, rfl, .ty "tuple", y, z, _, rfl, iteT k⟩
    · refine ⟨_, rfl, _, _, _, _, true, rfl, .ty "tuple", .base (.tup ht), kt, _, rfl, iteF ⟨_, rfl, t, xs, rfl, .inr (SqT.of ht), rfl, _, rfl, ite2 (fun _ => k) fun c => ?_⟩⟩
      have : ¬ V.int (xs.length : Int) = V.int 2 := fun z => hl (by have := V.int.inj z; omega)
      exact absurd (by simp [this]) c
    · refine ⟨_, rfl, _, _, _, _, true, rfl, .ty "tuple", .base (.tup ht), kt, _, rfl, iteF ⟨_, rfl, t, _, rfl, .inr (SqT.of ht), rfl, _, rfl, iteF ?_⟩⟩
      refine ⟨_, rfl, t, _, rfl, SqT.of ht, rfl, _, _, rfl, _, _, rfl, rfl, ?_⟩
      refine ⟨_, rfl, _, _, rfl, hx, _, rfl, ?_⟩
      cases a with
      | false => exact iteT k
      | true =>
        refine iteF ⟨_, rfl, _, _, rfl, hy, _, rfl, ?_⟩
        cases c with
        | false => exact iteT k
        | true => cases hac
    · refine ⟨_, rfl, _, _, _, _, true, rfl, .ty "tuple", .base (.tup ht), kt, _, rfl, iteF ⟨_, rfl, t, _, rfl, .inr (SqT.of ht), rfl, _, rfl, iteF ?_⟩⟩
      refine ⟨_, rfl, t, _, rfl, SqT.of ht, rfl, _, _, rfl, _, _, rfl, rfl, ?_⟩
      refine ⟨_, rfl, _, _, rfl, .inl ⟨n, rfl, rfl⟩, _, rfl, iteF ⟨_, rfl, _, _, rfl, .inl ⟨m, rfl, rfl⟩, _, rfl, iteF ?_⟩⟩
      refine ⟨_, rfl, rfl, _, rfl, ite2 (fun c => ?_) fun c => ?_⟩
      · have e : n = 0 := V.int.inj (of_decide_eq_true c)
        refine ⟨_, rfl, rfl, ?_⟩
        unfold numOk at k
        rw [if_pos e] at k
        have q : decide (V.int m = V.int 0) = decide (m = 0) := by
          by_cases z : m = 0
          · rw [z]; rfl
          · rw [decide_eq_false z, decide_eq_false (fun y => z (V.int.inj y))]
        rw [q]
        exact k
      · have e : ¬ n = 0 := fun z => c (decide_eq_true (by rw [z]))
        unfold numOk at k
        rw [if_neg e] at k
        refine ⟨_, rfl, _, _, rfl, rfl, (by show (0 : Int) < 10; decide), rfl, _, rfl, ?_⟩
        have q : (!decide (V.int (n % 10) = V.int 0)) = decide (n % 10 ≠ 0) := by
          by_cases z : n % 10 = 0
          · rw [z]; rfl
          · rw [decide_eq_true z, decide_eq_false (fun y => z (V.int.inj y))]; rfl
        rw [q]
        by_cases z : n % 10 ≠ 0
        · rw [decide_eq_true z] at k ⊢
          refine iteT ⟨_, rfl, _, rfl, _, _, rfl, rfl, _, rfl, ?_⟩
          by_cases z2 : (if n < 0 then -n else n) ≤ 1000000000000000000000000000000
          · rw [decide_eq_true z2] at k ⊢
            exact iteT ⟨_, rfl, _, rfl, _, _, rfl, rfl, k⟩
          · rw [decide_eq_false z2] at k ⊢
            exact iteF k
        · rw [decide_eq_false z] at k ⊢
          exact iteF k
theorem scCN : FnScope ["value"] ["value"] (defScope sCN) := ⟨rfl, rfl, rfl, by decide +kernel, rfl, by decide +kernel, by decide +kernel⟩
theorem ok_cnum {f f1 CN : Addr} {fd fd1 : FuncData} (F : Fun K "check_number" "check_number" sCN f fd) (TE : ErrK K mg "BadNumber" CN) (GI : FnOk P w K mg base CX0 2 f1 fd1 ["value"] (spIN K)) (gI : GFn K mg "is_number" f1 fd1 ["value"]) : FnOk P w K mg base (L2.CX P w) 3 f fd ["value"] (spCN K CN) := by
  refine F.okX scCN (fun vs H Q E h => ?_) (fun cdv A outer s H vs Q E hr h => ?_)
  · obtain ⟨v, b, rfl, _⟩ := h
    rfl
  · obtain ⟨v, b, rfl, hb, kt, kf⟩ := h
    refine ⟨_, (pss_one (ps_if (pt_not (pt_val (pe_call GI (hr.mono (by decide)) rfl gI.g gI.k gI.b .nil pass0 (pa_cons (pv 0) pa_nil)))) (pss_one (ps_raise rfl (takes_of rfl rfl rfl rfl) (pmk_own PySem.F.excBase_ValueError TE.q TE.g TE.k (raises_own TE.b TE.t) rfl))) pss_nil)), ?_⟩
    refine ⟨_, rfl, v, b, rfl, hb, _, rfl, ?_⟩
    cases b with
    | true => exact iteF (kt rfl)
    | false => exact iteT (kf rfl)
theorem scIT : FnScope ["value"] ["value"] (defScope sIT) := ⟨rfl, rfl, rfl, by decide +kernel, rfl, by decide +kernel, by decide +kernel⟩
theorem ok_istext {f : Addr} {fd : FuncData} {ul : Value} (F : Fun K "_is_text" "_is_text" sIT f fd) (T : TBl mg) (lg : mg "LONGEST" = some ul) (lr : RelV (.int 100) ul) : FnOk P w K mg base CX0 1 f fd ["value"] (spIT K) := by
  refine F.ok scIT (fun vs H Q E h => ?_) (fun cdv A outer s H vs Q E hr h => ?_)
  · obtain ⟨v, rfl, _⟩ := h
    rfl
  · obtain ⟨v, rfl, h⟩ := h
    refine ⟨_, (pss_one (ps_ret (pe_and (pe_callB isiK rfl T.isi bt_isinstance (pa_cons (pv 0) (pa_cons (pe_bltn (v := .ty "str") rfl T.str bt_str rfl) pa_nil))) (pe_one (pe_cmpR op_le (pe_callB call_len_str rfl T.len bt_len (pa_cons (pv 0) pa_nil)) (pe_glob (v := .int 100) rfl lg lr) (nomark _)))))), ?_⟩
    have str : ∀ x : Str, TyX K H (.str x) (.type "str") := fun x => .base (.str x)
    have kit : PySem.W.kitOne K (.type "str") (.type "str") = some true := kit_ty (r := true) (by decide +kernel)
    rcases h with ⟨⟨x, rfl, hx, hx2⟩ | ⟨t, y, k⟩, e⟩ | ⟨x, rfl, hx, k⟩
    · refine ⟨_, rfl, _, _, _, _, true, rfl, .ty "str", str x, kit, _, rfl, iteT ⟨_, rfl, x, rfl, hx2, _, _, rfl, rfl, ?_⟩⟩
      show Q (.bl (decide (((x.length : Nat) : Int) ≤ 100))) H
      rw [decide_eq_false (show ¬ ((x.length : Nat) : Int) ≤ 100 by omega)]
      exact e
    · exact ⟨_, rfl, _, _, _, _, false, rfl, .ty "str", y, k, _, rfl, iteF e⟩
    · refine ⟨_, rfl, _, _, _, _, true, rfl, .ty "str", str x, kit, _, rfl, iteT ⟨_, rfl, x, rfl, Nat.le_of_lt (small1000 (n := x.length) (by omega)), _, _, rfl, rfl, ?_⟩⟩
      show Q (.bl (decide (((x.length : Nat) : Int) ≤ 100))) H
      rw [decide_eq_true (show ((x.length : Nat) : Int) ≤ 100 by omega)]
      exact k
theorem scCT : FnScope ["value"] ["value"] (defScope sCT) := ⟨rfl, rfl, rfl, by decide +kernel, rfl, by decide +kernel, by decide +kernel⟩
theorem ok_ctext {f f1 CT : Addr} {fd fd1 : FuncData} (F : Fun K "check_text" "check_text" sCT f fd) (T : ErrK K mg "BadText" CT) (GI : FnOk P w K mg base CX0 1 f1 fd1 ["value"] (spIT K)) (gI : GFn K mg "_is_text" f1 fd1 ["value"]) : FnOk P w K mg base (L2.CX P w) 2 f fd ["value"] (spCT K CT) := by
  refine F.okX scCT (fun vs H Q E h => ?_) (fun cdv A outer s H vs Q E hr h => ?_)
  · obtain ⟨v, rfl, _⟩ := h
    rfl
  · obtain ⟨v, rfl, h⟩ := h
    refine ⟨_, (pss_one (ps_if (pt_not (pt_val (pe_call GI (hr.mono (by decide)) rfl gI.g gI.k gI.b .nil pass0 (pa_cons (pv 0) pa_nil)))) (pss_one (ps_raise rfl (takes_of rfl rfl rfl rfl) (pmk_own PySem.F.excBase_ValueError T.q T.g T.k (raises_own T.b T.t) rfl))) pss_nil)), ?_⟩
    rcases h with ⟨n, e⟩ | ⟨x, rfl, hx, k⟩
    · exact ⟨_, rfl, v, rfl, .inl ⟨n, _, rfl, iteT e⟩⟩
    · exact ⟨_, rfl, _, rfl, .inr ⟨x, rfl, hx, _, rfl, iteF k⟩⟩
theorem scCTs : FnScope ["values", "index", "value"] ["values"] (defScope sCTs) := ⟨rfl, rfl, rfl, by decide +kernel, rfl, by decide +kernel, by decide +kernel⟩
theorem ok_ctexts {f f1 CT fT : Addr} {fd fd1 : FuncData} {ut : Value} (F : Fun K "check_texts" "check_texts" sCTs f fd) (T : TBl mg) (mt : mg "MOST_TEXTS" = some ut) (rt : RelV (.int 20) ut) (TE : BadTxt P K mg "BadTexts" "index" CT fT)
    (GI : FnOk P w K mg base CX0 1 f1 fd1 ["value"] (spIT K)) (gI : GFn K mg "_is_text" f1 fd1 ["value"]) : FnOk P w K mg base (L2.CX P w) 3 f fd ["values"] (spCTs K CT) := by
  refine F.okX scCTs (fun vs H Q E h => ?_) (fun cdv A outer s H vs Q E hr h => ?_)
  · obtain ⟨v, rfl, _⟩ := h
    rfl
  · obtain ⟨v, rfl, h⟩ := h
    refine ⟨_, (pss_cons (ps_if (PW.pt (pw_or (pt_not (pt_val (pe_callB isiTK rfl T.isi bt_isinstance (pa_cons (pv 0) (pa_cons (pe_tup (pa_cons (pe_bltn (v := .ty "list") rfl T.list bt_list rfl) (pa_cons (pe_bltn (v := .ty "tuple") rfl T.tuple bt_tuple rfl) pa_nil))) pa_nil))))) (pw_or1 (pt_not (pt_chain op_le op_le pe_int (pe_callB call_len_seq rfl T.len bt_len (pa_cons (pv 0) pa_nil)) (pe_glob (v := .int 20) rfl mt rt)))))) (pss_one (ps_raiseBad rfl TE hr (takes_of rfl rfl rfl rfl) (pa_cons pe_non pa_nil) rfl)) pss_nil)
      (pss_one (ps_for (passes_of rfl) rfl (pi_enum rfl T.en (pa_cons (pv 0) pa_nil)) (pg_tup rfl (pgs_cons (pg_name (i := 1) scCTs.nd rfl (Or.inl rfl)) (pgs_cons (pg_name (i := 2) scCTs.nd rfl (Or.inl rfl)) pgs_nil))) (pss_one (ps_if (pt_not (pt_val (pe_call GI (hr.mono (by decide)) rfl gI.g gI.k gI.b .nil pass0 (pa_cons (pv 2) pa_nil)))) (pss_one (ps_raiseBad rfl TE hr (takes_of rfl rfl rfl rfl) (pa_cons (pv 1) pa_nil) rfl)) pss_nil))))), ?_⟩
    rcases h with ⟨⟨t, y, z⟩, e⟩ | ⟨a, xs, rfl, hs, hn, e⟩ | ⟨a, xs, i, x, rfl, ha, h1, h2, hx, hg, hb, e⟩ | ⟨a, xs, rfl, ha, h1, h2, hg, k⟩
    · refine ⟨_, rfl, (by show 2 ≤ sizeLine; decide), fun p hp => ⟨_, _, _, _, _, false, rfl, upd_same, .cons (.ty "list") (.cons (.ty "tuple") .nil), tyX_same y (Same.new hp), z, _, rfl, iteT ?_⟩⟩
      exact ⟨_, rfl, vok_non, fun d hd => e d _ ((Same.new hp).trans (Same.new hd)) upd_same⟩
    · obtain ⟨t, y, z⟩ := hs.ty (K := K)
      have len : ∀ p, H p = none → SeqV (upd H p (.tup [.ty "list", .ty "tuple"])) a xs := fun p hp => hs.same (Same.new hp)
      refine ⟨_, rfl, (by show 2 ≤ sizeLine; decide), fun p hp => ⟨_, _, _, _, _, true, rfl, upd_same, .cons (.ty "list") (.cons (.ty "tuple") .nil), tyX_same y (Same.new hp), z, _, rfl, iteF ?_⟩⟩
      refine ⟨_, rfl, a, xs, rfl, (len p hp).sq, _, _, rfl, rfl, _, rfl, ?_⟩
      have bad : ∀ d, upd H p (.tup [.ty "list", .ty "tuple"]) d = none → E (.ref CT) (some d) (upd (upd H p (.tup [.ty "list", .ty "tuple"])) d (.xd [("index", .non)])) := fun d hd => e d _ ((Same.new hp).trans (Same.new hd)) upd_same
      refine ite2 (fun c1 => ?_) fun c1 => ⟨_, rfl, iteT ⟨_, rfl, vok_non, bad⟩⟩
      refine ⟨_, _, rfl, rfl, false, congrArg V.bl (decide_eq_false fun c2 => ?_), iteT ⟨_, rfl, vok_non, bad⟩⟩
      have c1' : (1 : Int) ≤ (xs.length : Nat) := of_decide_eq_true c1
      have c2' : ((xs.length : Nat) : Int) ≤ 20 := c2
      exact hn ⟨by omega, by omega⟩
    · obtain ⟨t, y, z⟩ := SeqV.ty (K := K) (H := H) (a := a) (xs := xs) (.inl ha)
      refine ⟨_, rfl, (by show 2 ≤ sizeLine; decide), fun p hp => ⟨_, _, _, _, _, true, rfl, upd_same, .cons (.ty "list") (.cons (.ty "tuple") .nil), tyX_same y (Same.new hp), z, _, rfl, iteF ?_⟩⟩
      have s0 : Same H (upd H p (.tup [.ty "list", .ty "tuple"])) := Same.new hp
      refine ⟨_, rfl, a, xs, rfl, .inl (SqL.of (s0 a _ ha)), _, _, rfl, rfl, true, congrArg V.bl (decide_eq_true (show (1 : Int) ≤ ((xs.length : Nat) : Int) by omega)), ?_⟩
      refine ⟨_, _, rfl, rfl, true, congrArg V.bl (decide_eq_true (show ((xs.length : Nat) : Int) ≤ 20 by omega)), iteF ?_⟩
      refine ⟨_, rfl, a, xs, rfl, SqL.of (s0 a _ ha), for_it walk_enum (fun j σ H' => (∃ v1 v2, σ = [some (.ref a), v1, v2]) ∧ Same H H' ∧ j ≤ i) ⟨⟨none, none, rfl⟩, s0, Nat.zero_le _⟩ (fun j σ H' _ p => SqL.of (p.2.1 a _ ha)) ?_ ?_⟩
      · rintro j _ σ H' _ hj ⟨⟨v1, v2, rfl⟩, s1, hji⟩ ⟨tt, n0, x0, rfl, htt, rfl, en, ex⟩
        cases en
        have s2 := s1.trans (Same.new (o := .tup [.int (j : Nat), x0]) htt)
        refine ⟨tt, _, rfl, SqT.of upd_same, rfl, _, _, rfl, _, _, rfl, rfl, ?_⟩
        by_cases hq : j = i
        · subst hq
          cases ex.symm.trans hx
          refine ⟨_, rfl, _, rfl, .inl ⟨hb.same s2, _, rfl, iteT ?_⟩⟩
          exact ⟨_, rfl, _, rfl, vok_nat (n := j) (by omega), fun d hd => e d _ (s2.trans (Same.new hd)) upd_same⟩
        · obtain ⟨x1, rfl, hx1⟩ := hg j x0 (by omega) ex
          exact ⟨_, rfl, _, rfl, .inr ⟨x1, rfl, hx1, _, rfl, iteF ⟨⟨_, _, rfl⟩, s2, by omega⟩⟩⟩
      · rintro σ H' ⟨_, _, hji⟩
        have := (List.getElem?_eq_some_iff.mp hx).1
        omega
    · obtain ⟨t, y, z⟩ := SeqV.ty (K := K) (H := H) (a := a) (xs := xs) (.inl ha)
      refine ⟨_, rfl, (by show 2 ≤ sizeLine; decide), fun p hp => ⟨_, _, _, _, _, true, rfl, upd_same, .cons (.ty "list") (.cons (.ty "tuple") .nil), tyX_same y (Same.new hp), z, _, rfl, iteF ?_⟩⟩
      have s0 : Same H (upd H p (.tup [.ty "list", .ty "tuple"])) := Same.new hp
      refine ⟨_, rfl, a, xs, rfl, .inl (SqL.of (s0 a _ ha)), _, _, rfl, rfl, true, congrArg V.bl (decide_eq_true (show (1 : Int) ≤ ((xs.length : Nat) : Int) by omega)), ?_⟩
      refine ⟨_, _, rfl, rfl, true, congrArg V.bl (decide_eq_true (show ((xs.length : Nat) : Int) ≤ 20 by omega)), iteF ?_⟩
      refine ⟨_, rfl, a, xs, rfl, SqL.of (s0 a _ ha), for_it walk_enum (fun j σ H' => (∃ v1 v2, σ = [some (.ref a), v1, v2]) ∧ Same H H') ⟨⟨none, none, rfl⟩, s0⟩ (fun j σ H' _ p => SqL.of (p.2 a _ ha)) ?_ ?_⟩
      · rintro j _ σ H' _ hj ⟨⟨v1, v2, rfl⟩, s1⟩ ⟨tt, n0, x0, rfl, htt, rfl, en, ex⟩
        cases en
        have s2 := s1.trans (Same.new (o := .tup [.int (j : Nat), x0]) htt)
        refine ⟨tt, _, rfl, SqT.of upd_same, rfl, _, _, rfl, _, _, rfl, rfl, ?_⟩
        obtain ⟨x1, rfl, hx1⟩ := hg x0 (List.mem_of_getElem? ex)
        exact ⟨_, rfl, _, rfl, .inr ⟨x1, rfl, hx1, _, rfl, iteF ⟨⟨_, _, rfl⟩, s2⟩⟩⟩
      · rintro σ H' ⟨⟨v1, v2, rfl⟩, s1⟩
        exact k _ s1
theorem scCRs : FnScope ["values", "index", "value"] ["values"] (defScope sCRs) := ⟨rfl, rfl, rfl, by decide +kernel, rfl, by decide +kernel, by decide +kernel⟩
theorem ok_crds {f CT fT : Addr} {fd : FuncData} {ut : Value} (F : Fun K "check_readers" "check_readers" sCRs f fd) (T : TBl mg) (mt : mg "MOST_READERS" = some ut) (rt : RelV (.int 4) ut) (TE : BadTxt P K mg "BadReaders" "index" CT fT)
    {C : Addr} (gRd : mg "Reader" = some (.ref C)) (ic : C8.InsC K C) (me : PySem.W.kitOne K (.ref C) (.ref C) = some true) : FnOk P w K mg base (L2.CX P w) 3 f fd ["values"] (spCRs K C CT) := by
  refine F.okX scCRs (fun vs H Q E h => ?_) (fun cdv A outer s H vs Q E hr h => ?_)
  · obtain ⟨v, rfl, _⟩ := h
    rfl
  · obtain ⟨v, rfl, h⟩ := h
    refine ⟨_, (pss_cons (ps_if (PW.pt (pw_or (pt_not (pt_val (pe_callB isiTK rfl T.isi bt_isinstance (pa_cons (pv 0) (pa_cons (pe_tup (pa_cons (pe_bltn (v := .ty "list") rfl T.list bt_list rfl) (pa_cons (pe_bltn (v := .ty "tuple") rfl T.tuple bt_tuple rfl) pa_nil))) pa_nil))))) (pw_or1 (pt_not (pt_chain op_le op_le pe_int (pe_callB call_len_seq rfl T.len bt_len (pa_cons (pv 0) pa_nil)) (pe_glob (v := .int 4) rfl mt rt)))))) (pss_one (ps_raiseBad rfl TE hr (takes_of rfl rfl rfl rfl) (pa_cons pe_non pa_nil) rfl)) pss_nil)
      (pss_one (ps_for (passes_of rfl) rfl (pi_enum rfl T.en (pa_cons (pv 0) pa_nil)) (pg_tup rfl (pgs_cons (pg_name (i := 1) scCRs.nd rfl (Or.inl rfl)) (pgs_cons (pg_name (i := 2) scCRs.nd rfl (Or.inl rfl)) pgs_nil))) (pss_one (ps_if (pt_not (pt_val (pe_callB isiK rfl T.isi bt_isinstance (pa_cons (pv 2) (pa_cons (pe_glob (v := .ref C) rfl gRd rfl) pa_nil))))) (pss_one (ps_raiseBad rfl TE hr (takes_of rfl rfl rfl rfl) (pa_cons (pv 1) pa_nil) rfl)) pss_nil))))), ?_⟩
    rcases h with ⟨⟨t, y, z⟩, e⟩ | ⟨a, xs, rfl, hs, hn, e⟩ | ⟨a, xs, i, x, rfl, ha, h1, h2, hx, hg, hb, e⟩ | ⟨a, xs, rfl, ha, h1, h2, hg, k⟩
    · refine ⟨_, rfl, (by show 2 ≤ sizeLine; decide), fun p hp => ⟨_, _, _, _, _, false, rfl, upd_same, .cons (.ty "list") (.cons (.ty "tuple") .nil), tyX_same y (Same.new hp), z, _, rfl, iteT ?_⟩⟩
      exact ⟨_, rfl, vok_non, fun d hd => e d _ ((Same.new hp).trans (Same.new hd)) upd_same⟩
    · obtain ⟨t, y, z⟩ := hs.ty (K := K)
      have len : ∀ p, H p = none → SeqV (upd H p (.tup [.ty "list", .ty "tuple"])) a xs := fun p hp => hs.same (Same.new hp)
      refine ⟨_, rfl, (by show 2 ≤ sizeLine; decide), fun p hp => ⟨_, _, _, _, _, true, rfl, upd_same, .cons (.ty "list") (.cons (.ty "tuple") .nil), tyX_same y (Same.new hp), z, _, rfl, iteF ?_⟩⟩
      refine ⟨_, rfl, a, xs, rfl, (len p hp).sq, _, _, rfl, rfl, _, rfl, ?_⟩
      have bad : ∀ d, upd H p (.tup [.ty "list", .ty "tuple"]) d = none → E (.ref CT) (some d) (upd (upd H p (.tup [.ty "list", .ty "tuple"])) d (.xd [("index", .non)])) := fun d hd => e d _ ((Same.new hp).trans (Same.new hd)) upd_same
      refine ite2 (fun c1 => ?_) fun c1 => ⟨_, rfl, iteT ⟨_, rfl, vok_non, bad⟩⟩
      refine ⟨_, _, rfl, rfl, false, congrArg V.bl (decide_eq_false fun c2 => ?_), iteT ⟨_, rfl, vok_non, bad⟩⟩
      have c1' : (1 : Int) ≤ (xs.length : Nat) := of_decide_eq_true c1
      have c2' : ((xs.length : Nat) : Int) ≤ 4 := c2
      exact hn ⟨by omega, by omega⟩
    · obtain ⟨t, y, z⟩ := SeqV.ty (K := K) (H := H) (a := a) (xs := xs) (.inl ha)
      refine ⟨_, rfl, (by show 2 ≤ sizeLine; decide), fun p hp => ⟨_, _, _, _, _, true, rfl, upd_same, .cons (.ty "list") (.cons (.ty "tuple") .nil), tyX_same y (Same.new hp), z, _, rfl, iteF ?_⟩⟩
      have s0 : Same H (upd H p (.tup [.ty "list", .ty "tuple"])) := Same.new hp
      refine ⟨_, rfl, a, xs, rfl, .inl (SqL.of (s0 a _ ha)), _, _, rfl, rfl, true, congrArg V.bl (decide_eq_true (show (1 : Int) ≤ ((xs.length : Nat) : Int) by omega)), ?_⟩
      refine ⟨_, _, rfl, rfl, true, congrArg V.bl (decide_eq_true (show ((xs.length : Nat) : Int) ≤ 4 by omega)), iteF ?_⟩
      refine ⟨_, rfl, a, xs, rfl, SqL.of (s0 a _ ha), for_it walk_enum (fun j σ H' => (∃ v1 v2, σ = [some (.ref a), v1, v2]) ∧ Same H H' ∧ j ≤ i) ⟨⟨none, none, rfl⟩, s0, Nat.zero_le _⟩ (fun j σ H' _ p => SqL.of (p.2.1 a _ ha)) ?_ ?_⟩
      · rintro j _ σ H' _ hj ⟨⟨v1, v2, rfl⟩, s1, hji⟩ ⟨tt, n0, x0, rfl, htt, rfl, en, ex⟩
        cases en
        have s2 := s1.trans (Same.new (o := .tup [.int (j : Nat), x0]) htt)
        refine ⟨tt, _, rfl, SqT.of upd_same, rfl, _, _, rfl, _, _, rfl, rfl, ?_⟩
        by_cases hq : j = i
        · subst hq
          cases ex.symm.trans hx
          obtain ⟨t3, y3, z3⟩ := hb.same s2
          refine ⟨_, rfl, _, _, _, _, false, rfl, .own C, y3, z3, _, rfl, iteT ?_⟩
          exact ⟨_, rfl, _, rfl, vok_nat (n := j) (by omega), fun d hd => e d _ (s2.trans (Same.new hd)) upd_same⟩
        · obtain ⟨r, ws, rfl, dx, tt3, h3, _⟩ := hg j x0 (by omega) ex
          exact ⟨_, rfl, _, _, _, _, true, rfl, .own C, .base (TyOf.ins (s2 _ _ h3) ic.cl ic.ha ic.hn ic.htk ic.hm), me, _, rfl, iteF ⟨⟨_, _, rfl⟩, s2, by omega⟩⟩
      · rintro σ H' ⟨_, _, hji⟩
        have := (List.getElem?_eq_some_iff.mp hx).1
        omega
    · obtain ⟨t, y, z⟩ := SeqV.ty (K := K) (H := H) (a := a) (xs := xs) (.inl ha)
      refine ⟨_, rfl, (by show 2 ≤ sizeLine; decide), fun p hp => ⟨_, _, _, _, _, true, rfl, upd_same, .cons (.ty "list") (.cons (.ty "tuple") .nil), tyX_same y (Same.new hp), z, _, rfl, iteF ?_⟩⟩
      have s0 : Same H (upd H p (.tup [.ty "list", .ty "tuple"])) := Same.new hp
      refine ⟨_, rfl, a, xs, rfl, .inl (SqL.of (s0 a _ ha)), _, _, rfl, rfl, true, congrArg V.bl (decide_eq_true (show (1 : Int) ≤ ((xs.length : Nat) : Int) by omega)), ?_⟩
      refine ⟨_, _, rfl, rfl, true, congrArg V.bl (decide_eq_true (show ((xs.length : Nat) : Int) ≤ 4 by omega)), iteF ?_⟩
      refine ⟨_, rfl, a, xs, rfl, SqL.of (s0 a _ ha), for_it walk_enum (fun j σ H' => (∃ v1 v2, σ = [some (.ref a), v1, v2]) ∧ Same H H') ⟨⟨none, none, rfl⟩, s0⟩ (fun j σ H' _ p => SqL.of (p.2 a _ ha)) ?_ ?_⟩
      · rintro j _ σ H' _ hj ⟨⟨v1, v2, rfl⟩, s1⟩ ⟨tt, n0, x0, rfl, htt, rfl, en, ex⟩
        cases en
        have s2 := s1.trans (Same.new (o := .tup [.int (j : Nat), x0]) htt)
        refine ⟨tt, _, rfl, SqT.of upd_same, rfl, _, _, rfl, _, _, rfl, rfl, ?_⟩
        obtain ⟨r, ws, rfl, dx, tt3, h3, _⟩ := hg x0 (List.mem_of_getElem? ex)
        exact ⟨_, rfl, _, _, _, _, true, rfl, .own C, .base (TyOf.ins (s2 _ _ h3) ic.cl ic.ha ic.hn ic.htk ic.hm), me, _, rfl, iteF ⟨⟨_, _, rfl⟩, s2⟩⟩
      · rintro σ H' ⟨⟨v1, v2, rfl⟩, s1⟩
        exact k _ s1
end
end Ra

/-! RaMakeS: an object of an own class is made where what its __init__ raises is caught: the errors' promise hangs on the state. -/
namespace Ra
open PySem PySem.Spec PyProof.Rows L2 RaX
section
variable {X : Cx} {CX : CXT} {k : Nat} {f C : Addr} {fd : FuncData} {ps : List Str} {sp : Sp} {E : L2.St → XK} {x : Str} {p pos : Pos} {e : Expr} {es : List Expr} {t : TA}
def tMakeS (C : Addr) (sp : Sp) (E : L2.St → XK) (t : TA) : TE := fun σ H Q => t σ H fun vs H1 => ∀ a d, H1 a = none → H1 d = none → d ≠ a → sp (.ref a :: vs) (upd (upd H1 d (.own a)) a (.ins C d [])) (fun v H2 => v = .non ∧ Q (.ref a) H2) (E σ)
theorem run_makeS {pins : List (Addr × Obj)} {σ : L2.St} {H : Hp} {s : Shared} {Q : VK} {us : List Value} {vs : List V} (M : Mk X.K C f) (F : FnOk X.prog X.w X.K X.mg X.base CX k f fd ps sp) (hr : Room (k + 1) X.A) (hb : Binds X.K fd ps [])
    (hx : PassesAt CX X σ (E σ)) (I : Inv X pins σ H s) (r : Vals vs us) (h : ∀ a d, H a = none → H d = none → d ≠ a → sp (.ref a :: vs) (upd (upd H d (.own a)) a (.ins C d [])) (fun v H2 => v = .non ∧ Q (.ref a) H2) (E σ)) :
    wpAny (model X.prog X.w) X.A (call (.ref C) us) (EP X pins σ Q) X.xe s := by
  have n0 : s.heap.objs.size ≠ s.heap.objs.size + 1 := Nat.ne_of_lt (Nat.lt_succ_self _)
  have z := h _ _ (I.hok.fresh (Nat.le_succ s.heap.objs.size)) (I.hok.fresh (Nat.le_refl _)) n0
  have J := Inv.made (C := C) I
  have rr : Vals (V.ref (s.heap.objs.size + 1) :: vs) (Value.ref (s.heap.objs.size + 1) :: us) := .cons rfl r
  have hl : (Value.ref (s.heap.objs.size + 1) :: us ++ []).length = ps.length := by
    rw [List.append_nil, ← rr.length]
    exact F.len _ _ _ _ z
  have b := hb _ (Value.ref (s.heap.objs.size + 1) :: us) J.kIn hl
  rw [List.append_nil] at b
  have run := F.run _ X.stack _ _ ⟨Value.ref (s.heap.objs.size + 1) :: us, []⟩ (Value.ref (s.heap.objs.size + 1) :: us) _ _ (E σ) (hr.make C us []) (J.env0.make C us []) b rr z
  refine wpAny_call (make_map (f := f) I.kIn M.makes M.init (beq_iff_eq.mp M.fn) (codeAny_mono run fun q s' hq => ?_))
  cases q with
  | error y => exact hx pins _ _ y s' J hq
  | ok fl => cases fl with
    | ret u =>
      obtain ⟨v, H', I3, rv, rfl, q3⟩ := J.after hq
      exact ⟨rv, V.ref (s.heap.objs.size + 1), H', I3, rfl, q3⟩
    | next => exact hq.elim
    | brk => exact hq.elim
    | cont => exact hq.elim
theorem pe_makeS (M : Mk X.K C f) (F : FnOk X.prog X.w X.K X.mg X.base CX k f fd ps sp) (hr : Room (k + 1) X.A) (hg : Gl X x) (hm : X.mg x = some (.ref C)) (hb : Binds X.K fd ps []) (hx : ∀ σ, PassesAt CX X σ (E σ)) (ha : PA X (e :: es) t)
    (hd : (x == ("__debug__" : Str)) = false := by decide) (he : starEach (e :: es) X.env = (false, eval e X.env) :: starEach es X.env := by rfl) (hpl : (backTo pos (starEach es X.env)).any (·.1) = false := by rfl) : PE X (.Call (.Name x p) (e :: es) [] pos) (tMakeS C sp E t) :=
  ⟨fun pins s σ H Q I h => wpAny_Call_Name_kw (ld_glob I hg hm (by
    refine PySem.W.callWith_K (h₀ := X.base) I.ok.mod.kin M.kp (thn (ha.run pos pins s σ H _ I h) fun us s1 ⟨vs, H1, I1, r, q⟩ => ⟨I1.kIn, ?_⟩) he hpl
    exact run_makeS M F hr hb (hx σ) I1 r q) hd)⟩
end
end Ra

namespace Ra
open PySem L2 RaX
abbrev s_parts : Stmt := top 15
abbrev s_write : Stmt := top 105
abbrev s_first_stop : Stmt := top 59
abbrev s_means : Stmt := top 60
abbrev s_takes : Stmt := top 58
abbrev s_count : Stmt := top 96
abbrev s_written : Stmt := top 108
abbrev s_alone : Stmt := top 93
abbrev s_same : Stmt := top 95
abbrev s_off : Stmt := top 91
abbrev s_two_numbers : Stmt := top 94
abbrev s_count_both : Stmt := top 97
abbrev s_misread : Stmt := top 109
abbrev s_parting : Stmt := top 83
abbrev s_safety : Stmt := top 81
abbrev s_shortest : Stmt := top 110
abbrev s_takers : Stmt := top 84
abbrev s_ways : Stmt := top 85
abbrev s__rows_of_numbers : Stmt := top 87
abbrev s_pair : Stmt := top 98
abbrev s_col : Stmt := inClass (top 89) 0
abbrev Good (C : Addr) (H : Hp) (v : V) : Prop := ∃ r ws, v = .ref r ∧ RdAt C H r ws
abbrev BadRds (K : PySem.W.Frag) (C : Addr) (v : V) (H : Hp) (o : Option Nat) : Prop := BadSeq K 1 4 (fun H x => Good C H x) (NoRd K C) v H o
theorem good_same {C : Addr} {H H' : Hp} (s : Same H H') (x : V) (h : Good C H x) : Good C H' x := by
  obtain ⟨r, ws, e, h⟩ := h
  exact ⟨r, ws, e, h.same s⟩
theorem badR_same {K : PySem.W.Frag} {C : Addr} {v : V} {H H' : Hp} {o : Option Nat} (b : BadRds K C v H o) (s : Same H H') : BadRds K C v H' o := BadSeq.same (good_same s) (fun _ h => h.same s) b s
/-- a value that is no reader, the first of one, two, three -/
def spR1 (K : PySem.W.Frag) (C CR : Addr) : Sp := fun vs H _ E => ∃ v, vs = [v] ∧ NoRd K C H v ∧ E (.ref CR) none H
def spR2 (K : PySem.W.Frag) (C CR : Addr) : Sp := fun vs H _ E => ∃ v u, vs = [v, u] ∧ (NoRd K C H v ∨ (Good C H v ∧ NoRd K C H u)) ∧ E (.ref CR) none H
def spR2a (K : PySem.W.Frag) (C CR : Addr) : Sp := fun vs H _ E => ∃ v u, vs = [v, u] ∧ NoRd K C H v ∧ E (.ref CR) none H
def spR3 (K : PySem.W.Frag) (C CR : Addr) : Sp := fun vs H _ E => ∃ v u x, vs = [v, u, x] ∧ (NoRd K C H v ∨ (Good C H v ∧ NoRd K C H u)) ∧ E (.ref CR) none H
def spRd1 (K : PySem.W.Frag) (C CRs : Addr) : Sp := fun vs H _ E => ∃ v o, vs = [v] ∧ BadRds K C v H o ∧ EIx CRs E H o
def spRd2 (K : PySem.W.Frag) (C CRs : Addr) : Sp := fun vs H _ E => ∃ v u o, vs = [v, u] ∧ BadRds K C v H o ∧ EIx CRs E H o
def spCIB (K : PySem.W.Frag) (C CRs : Addr) : Sp := fun vs H _ E => ∃ x v o, vs = [x, v] ∧ BadRds K C v H o ∧ EIx CRs E H o
section
variable {P : Program} {w : World} {K : PySem.W.Frag} {mg : Str → Option Value} {base : Heap} {CX : CXT} {C CR CRs CC : Addr}
theorem passAll {X : Cx} {E : XK} (p : Passes CX X E) (σ : L2.St) : PassesAt CX X σ ((fun _ => E) σ) := fun pins H s e s' I c => p pins σ H s e s' I c
theorem sc_parts : FnScope ["reader"] ["reader"] (defScope s_parts) := ⟨rfl, rfl, rfl, by decide +kernel, rfl, by decide +kernel, by decide +kernel⟩
theorem okR_parts {f f1 : Addr} {fd fd1 : FuncData} (F : Fun K "parts" "parts" s_parts f fd) (GR : FnOk P w K mg base (L2.CX P w) 1 f1 fd1 ["value"] (spChk K C CR)) (gR : GFn K mg "check_reader" f1 fd1 ["value"]) : FnOk P w K mg base (L2.CX P w) 2 f fd ["reader"] (spR1 K C CR) := by
  refine F.okX sc_parts (fun vs H Q E h => ?_) (fun cdv A outer s H vs Q E hr h => ?_)
  · obtain ⟨v, rfl, _⟩ := h
    rfl
  · obtain ⟨v, rfl, h, e⟩ := h
    refine ⟨_, (pss_cons (ps_expr (pe_call GR (hr.mono (by decide)) rfl gR.g gR.k gR.b .nil (passes_call (takes_of rfl rfl rfl rfl) (fun _ _ _ _ h => h)) (pa_cons (pv 0) pa_nil)))
      pss_never), ?_⟩
    exact ⟨_, rfl, v, rfl, .inr ⟨h, e⟩⟩
theorem sc_write : FnScope ["reader", "words", "values", "value", "name"] ["reader"] (defScope s_write) := ⟨rfl, rfl, rfl, by decide +kernel, rfl, by decide +kernel, by decide +kernel⟩
theorem okR_write {f f1 : Addr} {fd fd1 : FuncData} (F : Fun K "write" "write" s_write f fd) (GR : FnOk P w K mg base (L2.CX P w) 1 f1 fd1 ["value"] (spChk K C CR)) (gR : GFn K mg "check_reader" f1 fd1 ["value"]) : FnOk P w K mg base (L2.CX P w) 2 f fd ["reader"] (spR1 K C CR) := by
  refine F.okX sc_write (fun vs H Q E h => ?_) (fun cdv A outer s H vs Q E hr h => ?_)
  · obtain ⟨v, rfl, _⟩ := h
    rfl
  · obtain ⟨v, rfl, h, e⟩ := h
    refine ⟨_, (pss_cons (ps_expr (pe_call GR (hr.mono (by decide)) rfl gR.g gR.k gR.b .nil (passes_call (takes_of rfl rfl rfl rfl) (fun _ _ _ _ h => h)) (pa_cons (pv 0) pa_nil)))
      pss_never), ?_⟩
    exact ⟨_, rfl, v, rfl, .inr ⟨h, e⟩⟩
theorem sc_first_stop : FnScope ["reader", "text", "state", "at", "sign"] ["reader", "text"] (defScope s_first_stop) := ⟨rfl, rfl, rfl, by decide +kernel, rfl, by decide +kernel, by decide +kernel⟩
theorem okR_first_stop {f f1 : Addr} {fd fd1 : FuncData} (F : Fun K "first_stop" "first_stop" s_first_stop f fd) (GR : FnOk P w K mg base (L2.CX P w) 1 f1 fd1 ["value"] (spChk K C CR)) (gR : GFn K mg "check_reader" f1 fd1 ["value"]) : FnOk P w K mg base (L2.CX P w) 2 f fd ["reader", "text"] (spR2a K C CR) := by
  refine F.okX sc_first_stop (fun vs H Q E h => ?_) (fun cdv A outer s H vs Q E hr h => ?_)
  · obtain ⟨v, u, rfl, _⟩ := h
    rfl
  · obtain ⟨v, u, rfl, h, e⟩ := h
    refine ⟨_, (pss_cons (ps_expr (pe_call GR (hr.mono (by decide)) rfl gR.g gR.k gR.b .nil (passes_call (takes_of rfl rfl rfl rfl) (fun _ _ _ _ h => h)) (pa_cons (pv 0) pa_nil)))
      pss_never), ?_⟩
    exact ⟨_, rfl, v, rfl, .inr ⟨h, e⟩⟩
theorem sc_count : FnScope ["reader", "length", "found", "marks"] ["reader", "length"] (defScope s_count) := ⟨rfl, rfl, rfl, by decide +kernel, rfl, by decide +kernel, by decide +kernel⟩
theorem okR_count {f f1 : Addr} {fd fd1 : FuncData} (F : Fun K "count" "count" s_count f fd) (GR : FnOk P w K mg base (L2.CX P w) 1 f1 fd1 ["value"] (spChk K C CR)) (gR : GFn K mg "check_reader" f1 fd1 ["value"]) : FnOk P w K mg base (L2.CX P w) 2 f fd ["reader", "length"] (spR2a K C CR) := by
  refine F.okX sc_count (fun vs H Q E h => ?_) (fun cdv A outer s H vs Q E hr h => ?_)
  · obtain ⟨v, u, rfl, _⟩ := h
    rfl
  · obtain ⟨v, u, rfl, h, e⟩ := h
    refine ⟨_, (pss_cons (ps_expr (pe_call GR (hr.mono (by decide)) rfl gR.g gR.k gR.b .nil (passes_call (takes_of rfl rfl rfl rfl) (fun _ _ _ _ h => h)) (pa_cons (pv 0) pa_nil)))
      pss_never), ?_⟩
    exact ⟨_, rfl, v, rfl, .inr ⟨h, e⟩⟩
theorem sc_written : FnScope ["reader", "number"] ["reader", "number"] (defScope s_written) := ⟨rfl, rfl, rfl, by decide +kernel, rfl, by decide +kernel, by decide +kernel⟩
theorem okR_written {f f1 : Addr} {fd fd1 : FuncData} (F : Fun K "written" "written" s_written f fd) (GR : FnOk P w K mg base (L2.CX P w) 1 f1 fd1 ["value"] (spChk K C CR)) (gR : GFn K mg "check_reader" f1 fd1 ["value"]) : FnOk P w K mg base (L2.CX P w) 2 f fd ["reader", "number"] (spR2a K C CR) := by
  refine F.okX sc_written (fun vs H Q E h => ?_) (fun cdv A outer s H vs Q E hr h => ?_)
  · obtain ⟨v, u, rfl, _⟩ := h
    rfl
  · obtain ⟨v, u, rfl, h, e⟩ := h
    refine ⟨_, (pss_cons (ps_expr (pe_call GR (hr.mono (by decide)) rfl gR.g gR.k gR.b .nil (passes_call (takes_of rfl rfl rfl rfl) (fun _ _ _ _ h => h)) (pa_cons (pv 0) pa_nil)))
      pss_never), ?_⟩
    exact ⟨_, rfl, v, rfl, .inr ⟨h, e⟩⟩
theorem sc_means : FnScope ["reader", "text", "at"] ["reader", "text"] (defScope s_means) := ⟨rfl, rfl, rfl, by decide +kernel, rfl, by decide +kernel, by decide +kernel⟩
theorem okR_means {f f1 : Addr} {fd fd1 : FuncData} (F : Fun K "means" "means" s_means f fd) (GR : FnOk P w K mg base (L2.CX P w) 2 f1 fd1 ["reader", "text"] (spR2a K C CR)) (gR : GFn K mg "first_stop" f1 fd1 ["reader", "text"]) : FnOk P w K mg base (L2.CX P w) 3 f fd ["reader", "text"] (spR2a K C CR) := by
  refine F.okX sc_means (fun vs H Q E h => ?_) (fun cdv A outer s H vs Q E hr h => ?_)
  · obtain ⟨v, u, rfl, _⟩ := h
    rfl
  · obtain ⟨v, u, rfl, h, e⟩ := h
    refine ⟨_, (pss_cons (ps_set (i := 2) sc_means.nd rfl (Or.inl rfl) (pe_call GR (hr.mono (by decide)) rfl gR.g gR.k gR.b .nil (passes_call (takes_of rfl rfl rfl rfl) (fun _ _ _ _ h => h)) (pa_cons (pv 0) (pa_cons (pv 1) pa_nil))))
      pss_never), ?_⟩
    exact ⟨_, rfl, _, rfl, v, u, rfl, h, e⟩
theorem sc_takes : FnScope ["reader", "text"] ["reader", "text"] (defScope s_takes) := ⟨rfl, rfl, rfl, by decide +kernel, rfl, by decide +kernel, by decide +kernel⟩
theorem okR_takes {f f1 : Addr} {fd fd1 : FuncData} (F : Fun K "takes" "takes" s_takes f fd) (GR : FnOk P w K mg base (L2.CX P w) 2 f1 fd1 ["reader", "text"] (spR2a K C CR)) (gR : GFn K mg "first_stop" f1 fd1 ["reader", "text"]) : FnOk P w K mg base (L2.CX P w) 3 f fd ["reader", "text"] (spR2a K C CR) := by
  refine F.okX sc_takes (fun vs H Q E h => ?_) (fun cdv A outer s H vs Q E hr h => ?_)
  · obtain ⟨v, u, rfl, _⟩ := h
    rfl
  · obtain ⟨v, u, rfl, h, e⟩ := h
    refine ⟨_, (pss_one (ps_ret (pe_cmpR op_isN (pe_call GR (hr.mono (by decide)) rfl gR.g gR.k gR.b .nil (passes_call (takes_of rfl rfl rfl rfl) (fun _ _ _ _ h => h)) (pa_cons (pv 0) (pa_cons (pv 1) pa_nil))) pe_non (nomark _)))), ?_⟩
    exact ⟨_, rfl, _, rfl, v, u, rfl, h, e⟩
theorem sc_pair : FnScope ["one", "other"] ["one", "other"] (defScope s_pair) := ⟨rfl, rfl, rfl, by decide +kernel, rfl, by decide +kernel, by decide +kernel⟩
theorem okR_pair {f f1 : Addr} {fd fd1 : FuncData} (F : Fun K "_check_pair" "_check_pair" s_pair f fd) (GR : FnOk P w K mg base (L2.CX P w) 1 f1 fd1 ["value"] (spChk K C CR)) (gR : GFn K mg "check_reader" f1 fd1 ["value"]) : FnOk P w K mg base (L2.CX P w) 2 f fd ["one", "other"] (spR2 K C CR) := by
  refine F.okX sc_pair (fun vs H Q E h => ?_) (fun cdv A outer s H vs Q E hr h => ?_)
  · obtain ⟨v, u, rfl, _⟩ := h
    rfl
  · obtain ⟨v, u, rfl, h, e⟩ := h
    refine ⟨_, (pss_cons (ps_expr (pe_call GR (hr.mono (by decide)) rfl gR.g gR.k gR.b .nil (passes_call (takes_of rfl rfl rfl rfl) (fun _ _ _ _ h => h)) (pa_cons (pv 0) pa_nil)))
      (pss_one (ps_expr (pe_call GR (hr.mono (by decide)) rfl gR.g gR.k gR.b .nil (passes_call (takes_of rfl rfl rfl rfl) (fun _ _ _ _ h => h)) (pa_cons (pv 1) pa_nil))))), ?_⟩
    rcases h with h | ⟨g, h⟩
    · exact ⟨_, rfl, v, rfl, .inr ⟨h, e⟩⟩
    · exact ⟨_, rfl, v, rfl, .inl ⟨g, _, rfl, u, rfl, .inr ⟨h, e⟩⟩⟩
theorem sc_off : FnScope ["writer", "reader", "found", "first"] ["writer", "reader"] (defScope s_off) := ⟨rfl, rfl, rfl, by decide +kernel, rfl, by decide +kernel, by decide +kernel⟩
theorem okR_off {f f1 : Addr} {fd fd1 : FuncData} (F : Fun K "off" "off" s_off f fd) (GR : FnOk P w K mg base (L2.CX P w) 1 f1 fd1 ["value"] (spChk K C CR)) (gR : GFn K mg "check_reader" f1 fd1 ["value"]) : FnOk P w K mg base (L2.CX P w) 2 f fd ["writer", "reader"] (spR2 K C CR) := by
  refine F.okX sc_off (fun vs H Q E h => ?_) (fun cdv A outer s H vs Q E hr h => ?_)
  · obtain ⟨v, u, rfl, _⟩ := h
    rfl
  · obtain ⟨v, u, rfl, h, e⟩ := h
    refine ⟨_, (pss_cons (ps_expr (pe_call GR (hr.mono (by decide)) rfl gR.g gR.k gR.b .nil (passes_call (takes_of rfl rfl rfl rfl) (fun _ _ _ _ h => h)) (pa_cons (pv 0) pa_nil)))
      (pss_cons (ps_expr (pe_call GR (hr.mono (by decide)) rfl gR.g gR.k gR.b .nil (passes_call (takes_of rfl rfl rfl rfl) (fun _ _ _ _ h => h)) (pa_cons (pv 1) pa_nil)))
      pss_never)), ?_⟩
    rcases h with h | ⟨g, h⟩
    · exact ⟨_, rfl, v, rfl, .inr ⟨h, e⟩⟩
    · exact ⟨_, rfl, v, rfl, .inl ⟨g, _, rfl, u, rfl, .inr ⟨h, e⟩⟩⟩
theorem sc_misread : FnScope ["writer", "reader", "number", "text"] ["writer", "reader", "number"] (defScope s_misread) := ⟨rfl, rfl, rfl, by decide +kernel, rfl, by decide +kernel, by decide +kernel⟩
theorem okR_misread {f f1 : Addr} {fd fd1 : FuncData} (F : Fun K "misread" "misread" s_misread f fd) (GR : FnOk P w K mg base (L2.CX P w) 1 f1 fd1 ["value"] (spChk K C CR)) (gR : GFn K mg "check_reader" f1 fd1 ["value"]) : FnOk P w K mg base (L2.CX P w) 2 f fd ["writer", "reader", "number"] (spR3 K C CR) := by
  refine F.okX sc_misread (fun vs H Q E h => ?_) (fun cdv A outer s H vs Q E hr h => ?_)
  · obtain ⟨v, u, x, rfl, _⟩ := h
    rfl
  · obtain ⟨v, u, x, rfl, h, e⟩ := h
    refine ⟨_, (pss_cons (ps_expr (pe_call GR (hr.mono (by decide)) rfl gR.g gR.k gR.b .nil (passes_call (takes_of rfl rfl rfl rfl) (fun _ _ _ _ h => h)) (pa_cons (pv 0) pa_nil)))
      (pss_cons (ps_expr (pe_call GR (hr.mono (by decide)) rfl gR.g gR.k gR.b .nil (passes_call (takes_of rfl rfl rfl rfl) (fun _ _ _ _ h => h)) (pa_cons (pv 1) pa_nil)))
      pss_never)), ?_⟩
    rcases h with h | ⟨g, h⟩
    · exact ⟨_, rfl, v, rfl, .inr ⟨h, e⟩⟩
    · exact ⟨_, rfl, v, rfl, .inl ⟨g, _, rfl, u, rfl, .inr ⟨h, e⟩⟩⟩
theorem sc_alone : FnScope ["one", "other"] ["one", "other"] (defScope s_alone) := ⟨rfl, rfl, rfl, by decide +kernel, rfl, by decide +kernel, by decide +kernel⟩
theorem okR_alone {f f1 : Addr} {fd fd1 : FuncData} (F : Fun K "alone" "alone" s_alone f fd) (GR : FnOk P w K mg base (L2.CX P w) 2 f1 fd1 ["one", "other"] (spR2 K C CR)) (gR : GFn K mg "_check_pair" f1 fd1 ["one", "other"]) : FnOk P w K mg base (L2.CX P w) 3 f fd ["one", "other"] (spR2 K C CR) := by
  refine F.okX sc_alone (fun vs H Q E h => ?_) (fun cdv A outer s H vs Q E hr h => ?_)
  · obtain ⟨v, u, rfl, _⟩ := h
    rfl
  · obtain ⟨v, u, rfl, h, e⟩ := h
    refine ⟨_, (pss_cons (ps_expr (pe_call GR (hr.mono (by decide)) rfl gR.g gR.k gR.b .nil (passes_call (takes_of rfl rfl rfl rfl) (fun _ _ _ _ h => h)) (pa_cons (pv 0) (pa_cons (pv 1) pa_nil))))
      pss_never), ?_⟩
    exact ⟨_, rfl, _, rfl, v, u, rfl, h, e⟩
theorem sc_two_numbers : FnScope ["one", "other"] ["one", "other"] (defScope s_two_numbers) := ⟨rfl, rfl, rfl, by decide +kernel, rfl, by decide +kernel, by decide +kernel⟩
theorem okR_two_numbers {f f1 : Addr} {fd fd1 : FuncData} (F : Fun K "two_numbers" "two_numbers" s_two_numbers f fd) (GR : FnOk P w K mg base (L2.CX P w) 2 f1 fd1 ["one", "other"] (spR2 K C CR)) (gR : GFn K mg "_check_pair" f1 fd1 ["one", "other"]) : FnOk P w K mg base (L2.CX P w) 3 f fd ["one", "other"] (spR2 K C CR) := by
  refine F.okX sc_two_numbers (fun vs H Q E h => ?_) (fun cdv A outer s H vs Q E hr h => ?_)
  · obtain ⟨v, u, rfl, _⟩ := h
    rfl
  · obtain ⟨v, u, rfl, h, e⟩ := h
    refine ⟨_, (pss_cons (ps_expr (pe_call GR (hr.mono (by decide)) rfl gR.g gR.k gR.b .nil (passes_call (takes_of rfl rfl rfl rfl) (fun _ _ _ _ h => h)) (pa_cons (pv 0) (pa_cons (pv 1) pa_nil))))
      pss_never), ?_⟩
    exact ⟨_, rfl, _, rfl, v, u, rfl, h, e⟩
theorem sc_same : FnScope ["one", "other"] ["one", "other"] (defScope s_same) := ⟨rfl, rfl, rfl, by decide +kernel, rfl, by decide +kernel, by decide +kernel⟩
theorem okR_same {f f1 : Addr} {fd fd1 : FuncData} (F : Fun K "same" "same" s_same f fd) (GR : FnOk P w K mg base (L2.CX P w) 2 f1 fd1 ["one", "other"] (spR2 K C CR)) (gR : GFn K mg "_check_pair" f1 fd1 ["one", "other"]) : FnOk P w K mg base (L2.CX P w) 3 f fd ["one", "other"] (spR2 K C CR) := by
  refine F.okX sc_same (fun vs H Q E h => ?_) (fun cdv A outer s H vs Q E hr h => ?_)
  · obtain ⟨v, u, rfl, _⟩ := h
    rfl
  · obtain ⟨v, u, rfl, h, e⟩ := h
    refine ⟨_, (pss_cons (ps_expr (pe_call GR (hr.mono (by decide)) rfl gR.g gR.k gR.b .nil (passes_call (takes_of rfl rfl rfl rfl) (fun _ _ _ _ h => h)) (pa_cons (pv 0) (pa_cons (pv 1) pa_nil))))
      pss_never), ?_⟩
    exact ⟨_, rfl, _, rfl, v, u, rfl, h, e⟩
theorem sc_count_both : FnScope ["one", "other", "length", "found", "both", "marks"] ["one", "other", "length"] (defScope s_count_both) := ⟨rfl, rfl, rfl, by decide +kernel, rfl, by decide +kernel, by decide +kernel⟩
theorem okR_count_both {f f1 : Addr} {fd fd1 : FuncData} (F : Fun K "count_both" "count_both" s_count_both f fd) (GR : FnOk P w K mg base (L2.CX P w) 2 f1 fd1 ["one", "other"] (spR2 K C CR)) (gR : GFn K mg "_check_pair" f1 fd1 ["one", "other"]) : FnOk P w K mg base (L2.CX P w) 3 f fd ["one", "other", "length"] (spR3 K C CR) := by
  refine F.okX sc_count_both (fun vs H Q E h => ?_) (fun cdv A outer s H vs Q E hr h => ?_)
  · obtain ⟨v, u, x, rfl, _⟩ := h
    rfl
  · obtain ⟨v, u, x, rfl, h, e⟩ := h
    refine ⟨_, (pss_cons (ps_expr (pe_call GR (hr.mono (by decide)) rfl gR.g gR.k gR.b .nil (passes_call (takes_of rfl rfl rfl rfl) (fun _ _ _ _ h => h)) (pa_cons (pv 0) (pa_cons (pv 1) pa_nil))))
      pss_never), ?_⟩
    exact ⟨_, rfl, _, rfl, v, u, rfl, h, e⟩
theorem sc_parting : FnScope ["readers"] ["readers"] (defScope s_parting) := ⟨rfl, rfl, rfl, by decide +kernel, rfl, by decide +kernel, by decide +kernel⟩
theorem okR_parting {f f1 : Addr} {fd fd1 : FuncData} (F : Fun K "parting" "parting" s_parting f fd) (GR : FnOk P w K mg base (L2.CX P w) 3 f1 fd1 ["values"] (spCRs K C CRs)) (gR : GFn K mg "check_readers" f1 fd1 ["values"]) : FnOk P w K mg base (L2.CX P w) 4 f fd ["readers"] (spRd1 K C CRs) := by
  refine F.okX sc_parting (fun vs H Q E h => ?_) (fun cdv A outer s H vs Q E hr h => ?_)
  · obtain ⟨v, o, rfl, _⟩ := h
    rfl
  · obtain ⟨v, o, rfl, h, e⟩ := h
    refine ⟨_, (pss_cons (ps_expr (pe_call GR (hr.mono (by decide)) rfl gR.g gR.k gR.b .nil (passes_call (takes_of rfl rfl rfl rfl) (fun _ _ _ _ h => h)) (pa_cons (pv 0) pa_nil)))
      pss_never), ?_⟩
    exact ⟨_, rfl, v, rfl, h.chk e⟩
theorem sc_safety : FnScope ["readers", "text"] ["readers", "text"] (defScope s_safety) := ⟨rfl, rfl, rfl, by decide +kernel, rfl, by decide +kernel, by decide +kernel⟩
theorem okR_safety {f f1 : Addr} {fd fd1 : FuncData} (F : Fun K "safety" "safety" s_safety f fd) (GR : FnOk P w K mg base (L2.CX P w) 3 f1 fd1 ["values"] (spCRs K C CRs)) (gR : GFn K mg "check_readers" f1 fd1 ["values"]) : FnOk P w K mg base (L2.CX P w) 4 f fd ["readers", "text"] (spRd2 K C CRs) := by
  refine F.okX sc_safety (fun vs H Q E h => ?_) (fun cdv A outer s H vs Q E hr h => ?_)
  · obtain ⟨v, u, o, rfl, _⟩ := h
    rfl
  · obtain ⟨v, u, o, rfl, h, e⟩ := h
    refine ⟨_, (pss_cons (ps_expr (pe_call GR (hr.mono (by decide)) rfl gR.g gR.k gR.b .nil (passes_call (takes_of rfl rfl rfl rfl) (fun _ _ _ _ h => h)) (pa_cons (pv 0) pa_nil)))
      pss_never), ?_⟩
    exact ⟨_, rfl, v, rfl, h.chk e⟩
theorem sc_shortest : FnScope ["readers", "number", "texts", "text", "_", "reader"] ["readers", "number"] (defScope s_shortest) := ⟨rfl, rfl, rfl, by decide +kernel, rfl, by decide +kernel, by decide +kernel⟩
theorem okR_shortest {f f1 : Addr} {fd fd1 : FuncData} (F : Fun K "shortest" "shortest" s_shortest f fd) (GR : FnOk P w K mg base (L2.CX P w) 3 f1 fd1 ["values"] (spCRs K C CRs)) (gR : GFn K mg "check_readers" f1 fd1 ["values"]) : FnOk P w K mg base (L2.CX P w) 4 f fd ["readers", "number"] (spRd2 K C CRs) := by
  refine F.okX sc_shortest (fun vs H Q E h => ?_) (fun cdv A outer s H vs Q E hr h => ?_)
  · obtain ⟨v, u, o, rfl, _⟩ := h
    rfl
  · obtain ⟨v, u, o, rfl, h, e⟩ := h
    refine ⟨_, (pss_cons (ps_expr (pe_call GR (hr.mono (by decide)) rfl gR.g gR.k gR.b .nil (passes_call (takes_of rfl rfl rfl rfl) (fun _ _ _ _ h => h)) (pa_cons (pv 0) pa_nil)))
      pss_never), ?_⟩
    exact ⟨_, rfl, v, rfl, h.chk e⟩
theorem sc__rows_of_numbers : FnScope ["readers", "texts", "reader", "text"] ["readers", "texts"] (defScope s__rows_of_numbers) := ⟨rfl, rfl, rfl, by decide +kernel, rfl, by decide +kernel, by decide +kernel⟩
theorem okR__rows_of_numbers {f f1 : Addr} {fd fd1 : FuncData} (F : Fun K "_rows_of_numbers" "_rows_of_numbers" s__rows_of_numbers f fd) (GR : FnOk P w K mg base (L2.CX P w) 3 f1 fd1 ["values"] (spCRs K C CRs)) (gR : GFn K mg "check_readers" f1 fd1 ["values"]) : FnOk P w K mg base (L2.CX P w) 4 f fd ["readers", "texts"] (spRd2 K C CRs) := by
  refine F.okX sc__rows_of_numbers (fun vs H Q E h => ?_) (fun cdv A outer s H vs Q E hr h => ?_)
  · obtain ⟨v, u, o, rfl, _⟩ := h
    rfl
  · obtain ⟨v, u, o, rfl, h, e⟩ := h
    refine ⟨_, (pss_cons (ps_expr (pe_call GR (hr.mono (by decide)) rfl gR.g gR.k gR.b .nil (passes_call (takes_of rfl rfl rfl rfl) (fun _ _ _ _ h => h)) (pa_cons (pv 0) pa_nil)))
      pss_never), ?_⟩
    exact ⟨_, rfl, v, rfl, h.chk e⟩
theorem sc_col : FnScope ["self", "readers"] ["self", "readers"] (defScope s_col) := ⟨rfl, rfl, rfl, by decide +kernel, rfl, by decide +kernel, by decide +kernel⟩
theorem okR_col {f f1 : Addr} {fd fd1 : FuncData} (F : Fun K "__init__" "Column.__init__" s_col f fd) (GR : FnOk P w K mg base (L2.CX P w) 3 f1 fd1 ["values"] (spCRs K C CRs)) (gR : GFn K mg "check_readers" f1 fd1 ["values"]) : FnOk P w K mg base (L2.CX P w) 4 f fd ["self", "readers"] (spCIB K C CRs) := by
  refine F.okX sc_col (fun vs H Q E h => ?_) (fun cdv A outer s H vs Q E hr h => ?_)
  · obtain ⟨x, v, o, rfl, _⟩ := h
    rfl
  · obtain ⟨x, v, o, rfl, h, e⟩ := h
    refine ⟨_, (pss_cons (ps_expr (pe_call GR (hr.mono (by decide)) rfl gR.g gR.k gR.b .nil (passes_call (takes_of rfl rfl rfl rfl) (fun _ _ _ _ h => h)) (pa_cons (pv 1) pa_nil)))
      pss_never), ?_⟩
    exact ⟨_, rfl, v, rfl, h.chk e⟩
theorem sc_takers : FnScope ["readers", "texts", "rows", "place", "numbers"] ["readers", "texts"] (defScope s_takers) := ⟨rfl, rfl, rfl, by decide +kernel, rfl, by decide +kernel, by decide +kernel⟩
theorem okR_takers {f f1 : Addr} {fd fd1 : FuncData} (F : Fun K "takers" "takers" s_takers f fd) (GR : FnOk P w K mg base (L2.CX P w) 4 f1 fd1 ["readers", "texts"] (spRd2 K C CRs)) (gR : GFn K mg "_rows_of_numbers" f1 fd1 ["readers", "texts"]) : FnOk P w K mg base (L2.CX P w) 5 f fd ["readers", "texts"] (spRd2 K C CRs) := by
  refine F.okX sc_takers (fun vs H Q E h => ?_) (fun cdv A outer s H vs Q E hr h => ?_)
  · obtain ⟨v, u, o, rfl, _⟩ := h
    rfl
  · obtain ⟨v, u, o, rfl, h, e⟩ := h
    refine ⟨_, (pss_cons (ps_set (i := 2) sc_takers.nd rfl (Or.inl rfl) (pe_call GR (hr.mono (by decide)) rfl gR.g gR.k gR.b .nil (passes_call (takes_of rfl rfl rfl rfl) (fun _ _ _ _ h => h)) (pa_cons (pv 0) (pa_cons (pv 1) pa_nil))))
      pss_never), ?_⟩
    exact ⟨_, rfl, _, rfl, v, u, o, rfl, h, e⟩
theorem sc_ways : FnScope ["readers", "texts", "places_of", "place", "numbers"] ["readers", "texts"] (defScope s_ways) := ⟨rfl, rfl, rfl, by decide +kernel, rfl, by decide +kernel, by decide +kernel⟩
theorem okR_ways {f f1 : Addr} {fd fd1 : FuncData} (F : Fun K "ways" "ways" s_ways f fd) (T : TBl mg) (GR : FnOk P w K mg base (L2.CX P w) 4 f1 fd1 ["readers", "texts"] (spRd2 K C CRs)) (gR : GFn K mg "_rows_of_numbers" f1 fd1 ["readers", "texts"]) : FnOk P w K mg base (L2.CX P w) 5 f fd ["readers", "texts"] (spRd2 K C CRs) := by
  refine F.okX sc_ways (fun vs H Q E h => ?_) (fun cdv A outer s H vs Q E hr h => ?_)
  · obtain ⟨v, u, o, rfl, _⟩ := h
    rfl
  · obtain ⟨v, u, o, rfl, h, e⟩ := h
    refine ⟨_, (pss_cons (ps_set (i := 2) sc_ways.nd rfl (Or.inr rfl) pe_dnewK)
      (pss_cons (ps_for (passes_of rfl) rfl (pi_enum rfl T.en (pa_cons (pe_call GR (hr.mono (by decide)) rfl gR.g gR.k gR.b .nil (passes_call (takes_of rfl rfl rfl rfl) (fun _ _ _ _ h => h)) (pa_cons (pv 0) (pa_cons (pv 1) pa_nil))) pa_nil)) (pg_tup rfl (pgs_cons (pg_name (i := 3) sc_ways.nd rfl (Or.inl rfl)) (pgs_cons (pg_name (i := 4) sc_ways.nd rfl (Or.inl rfl)) pgs_nil))) pss_never)
      pss_never)), ?_⟩
    exact fun p hp => ⟨_, rfl, _, rfl, v, u, o, rfl, badR_same h (Same.new hp), fun d H' s' hd => e d H' ((Same.new hp).trans s') hd⟩
end
end Ra

namespace Ra
open PySem L2 RaX
abbrev sOR : Stmt := top 121
abbrev sLC : Stmt := top 122
abbrev sLT : Stmt := top 123
abbrev sLL : Stmt := top 124
abbrev sLaw : Stmt := top 125
theorem told1 {K : PySem.W.Frag} {H : Hp} {l m : Addr} {o : Option Nat} (h : H l = some (.lst [oixV o])) (g : H m = some (.lst [oixV o])) : ∃ d, Dp K H (.ref l) d ∧ Dp K H (.ref m) d ∧ SeqAt.shaped d = true := by
  have go : ∀ e, Dp K H (oixV o) e → SeqAt.shaped (.list [e]) = true → ∃ d, Dp K H (.ref l) d ∧ Dp K H (.ref m) d ∧ SeqAt.shaped d = true := fun e q s => ⟨_, .lst (SqL.of h) (.cons q .nil), .lst (SqL.of g) (.cons q .nil), s⟩
  cases o with
  | none => exact go .none .non (by decide +kernel)
  | some n =>
    refine go (.int (n : Nat)) (.int _) (Bool.and_eq_true_iff.mpr ⟨rfl, decide_eq_true ?_⟩)
    simp only [PyData.depth, PyData.depthAll]
    omega
/-- what stands through a turn: the row of draws, a reader, a thing that is none -/
structure S02 (K : PySem.W.Frag) (C a x : Addr) (ws : List V) (bad : V) (H : Hp) : Prop where
  R : RowOk K H a
  rd : RdAt C H x ws
  nb : NoRd K C H bad
theorem S02.same {K : PySem.W.Frag} {C a x : Addr} {ws : List V} {bad : V} {H H' : Hp} (h : S02 K C a x ws bad H) (s : Same H H') : S02 K C a x ws bad H' := ⟨h.R.same s, h.rd.same s, h.nb.same s⟩
theorem NoRd.but {K : PySem.W.Frag} {C a : Addr} {H H' : Hp} {v : V} (h : NoRd K C H v) (R : RowOk K H a) (R' : RowOk K H' a) (s : But a H H') : NoRd K C H' v := let ⟨t, y, z⟩ := h; ⟨t, tyX_but y R R' s, z⟩
theorem S02.but {K : PySem.W.Frag} {C a x : Addr} {ws : List V} {bad : V} {H H' : Hp} (h : S02 K C a x ws bad H) (R : RowOk K H' a) (s : But a H H') : S02 K C a x ws bad H' := ⟨R, h.rd.but h.R s, h.nb.but h.R R s⟩
section
variable {P : Program} {w : World} {K : PySem.W.Frag} {mg : Str → Option Value} {base : Heap} {CX : CXT} {C CB CR CRs CC fB fRs : Addr}
/-- what is no reader -/
def spOR (K : PySem.W.Frag) (C : Addr) : Sp := fun vs H Q _ => ∃ (a : Addr), vs = [.ref a] ∧ RowOk K H a ∧ ∀ v H', NoRd K C H' v → RowOk K H' a → But a H H' → Q v H'
/-- types of the built-ins are no own class -/
structure NoOwn (K : PySem.W.Frag) (C : Addr) : Prop where
  non : PySem.W.kitOne K (.type "NoneType") (.ref C) = some false
  int : PySem.W.kitOne K (.type "int") (.ref C) = some false
  bl : PySem.W.kitOne K (.type "bool") (.ref C) = some false
  str : PySem.W.kitOne K (.type "str") (.ref C) = some false
  tup : PySem.W.kitOne K (.type "tuple") (.ref C) = some false
  lst : PySem.W.kitOne K (.type "list") (.ref C) = some false
  dct : PySem.W.kitOne K (.type "dict") (.ref C) = some false
theorem scOR : FnScope ["_law_row", "_law_told_here"] ["_law_row"] (defScope sOR) := ⟨rfl, rfl, rfl, by decide +kernel, rfl, by decide +kernel, by decide +kernel⟩
theorem ok_oddreader {f f1 : Addr} {fd fd1 : FuncData} (F : Fun K "_law_odd_reader" "_law_odd_reader" sOR f fd) (NO : NoOwn K C) (G : FnOk P w K mg base CX0 1 f1 fd1 ["_law_row", "_law_many"] (spTaken K)) (g : TkG K mg f1 fd1) : FnOk P w K mg base CX0 2 f fd ["_law_row"] (spOR K C) := by
  refine F.ok scOR (fun vs H Q E h => ?_) (fun cdv A outer s H vs Q E hr h => ?_)
  · obtain ⟨a, rfl, _⟩ := h
    rfl
  · obtain ⟨a, rfl, R, k⟩ := h
    refine ⟨_, (pss_cons (ps_set (i := 1) scOR.nd rfl (Or.inl rfl) (pe_tup (pa_cons pe_str (pa_cons pe_str (pa_cons pe_int (pa_cons pe_bl (pa_cons pe_str (pa_cons pe_bl (pa_cons pe_bl (pa_cons pe_bl pa_nil))))))))))
      (pss_one (ps_ret (pe_ix ix_list (pe_lst (pa_cons pe_non (pa_cons pe_int (pa_cons pe_bl (pa_cons pe_str (pa_cons (pv 1) (pa_cons pe_dnewK pa_nil))))))) (pe_call G (hr) rfl g.g g.k g.b .nil pass0 (pa_cons (pv 0) (pa_cons pe_int pa_nil))) (fun _ _ => rfl))))), ?_⟩
    refine ⟨by show 8 ≤ sizeLine; decide, fun t ht => ⟨_, rfl, fun d hd => ⟨by show 6 ≤ sizeLine; decide, fun o ho => ?_⟩⟩⟩
    have R0 := (R.new (o := .tup [.str ".", .str ",", .int 3, .bl false, .str "ahead", .bl false, .bl false, .bl false]) ht).new (o := .dK []) hd
    refine ⟨_, rfl, a, 6, rfl, by decide, by decide, R0.new ho, fun v H1 v0 v1 R2 B2 => ?_⟩
    obtain ⟨x, hx, mx⟩ := pick (xs := [V.non, .int 0, .bl true, .str "dot comma 3 ahead", .ref t, .ref d]) v0 v1
    refine ⟨o, _, _, _, rfl, rfl, SqL.of (B2 o _ (R0.ne ho) upd_same), hx, ?_⟩
    refine k x H1 ?_ R2 ((((But.new ht).trans (But.new hd)).trans (But.new ho)).trans B2)
    have et := B2 t _ (R.ne ht) (Same.new ho _ _ (Same.new hd _ _ upd_same))
    have ed := B2 d _ ((R.new ht).ne hd) (Same.new ho _ _ upd_same)
    have hq : x = V.non ∨ x = V.int 0 ∨ x = V.bl true ∨ x = V.str "dot comma 3 ahead" ∨ x = V.ref t ∨ x = V.ref d := by simpa using mx
    rcases hq with rfl | rfl | rfl | rfl | rfl | rfl
    · exact ⟨_, .base .non, NO.non⟩
    · exact ⟨_, .base (.int _), NO.int⟩
    · exact ⟨_, .base (.bl _), NO.bl⟩
    · exact ⟨_, .base (.str _), NO.str⟩
    · exact ⟨_, .base (.tup et), NO.tup⟩
    · exact ⟨_, .base (.dK ed), NO.dct⟩

def spLC (K : PySem.W.Frag) (C CR : Addr) : Sp := fun vs H _ E => ∃ (i : Int) (v : V), vs = [.int i, v] ∧ 0 ≤ i ∧ i < 19 ∧ NoRd K C H v ∧ ∀ H', Same H H' → E (.ref CR) none H'
/-- a reader that is written out -/
def p0 : P8 := ⟨".", ",", 3, false, "ahead", false, false, false⟩
theorem p0_ok : p0.Ok := by
  refine ⟨⟨?_, ?_, ?_, ?_⟩, ?_, ?_⟩ <;> first | decide +kernel | (simp [p0]; done)
theorem eqI {i j : Int} {b : Bool} (h : (i == j) = b) : V.bl (decide (V.int i = V.int j)) = V.bl b := by rw [dec_int, h]
theorem scLC : FnScope ["_law_kind", "_law_value", "_law_good"] ["_law_kind", "_law_value"] (defScope sLC) := ⟨rfl, rfl, rfl, by decide +kernel, rfl, by decide +kernel, by decide +kernel⟩
theorem ok_lcall {f fI f_parts f_write f_first_stop f_means f_takes f_count f_written f_alone f_same f_off f_two_numbers f_count_both f_misread : Addr} {fd fdI fd2 : FuncData} (F : Fun K "_law_call" "_law_call" sLC f fd) (TR : TRd P K mg C fI CB fB fdI) (GI : FnOk P w K mg base (L2.CX P w) 3 fI fdI ["self", "point", "comma", "rest", "must", "sign", "zeros", "blanks", "exponent"] (spInit C CB))
    (K_parts : Keeps P w K mg base (L2.CX P w) 9 f_parts (spR1 K C CR)) (gf_parts : mg "parts" = some (.ref f_parts)) (K_write : Keeps P w K mg base (L2.CX P w) 9 f_write (spR1 K C CR)) (gf_write : mg "write" = some (.ref f_write)) (K_first_stop : Keeps P w K mg base (L2.CX P w) 9 f_first_stop (spR2a K C CR)) (gf_first_stop : mg "first_stop" = some (.ref f_first_stop)) (K_means : Keeps P w K mg base (L2.CX P w) 9 f_means (spR2a K C CR)) (gf_means : mg "means" = some (.ref f_means)) (K_takes : Keeps P w K mg base (L2.CX P w) 9 f_takes (spR2a K C CR)) (gf_takes : mg "takes" = some (.ref f_takes)) (K_count : Keeps P w K mg base (L2.CX P w) 9 f_count (spR2a K C CR)) (gf_count : mg "count" = some (.ref f_count)) (K_written : Keeps P w K mg base (L2.CX P w) 9 f_written (spR2a K C CR)) (gf_written : mg "written" = some (.ref f_written)) (K_alone : Keeps P w K mg base (L2.CX P w) 9 f_alone (spR2 K C CR)) (gf_alone : mg "alone" = some (.ref f_alone)) (K_same : Keeps P w K mg base (L2.CX P w) 9 f_same (spR2 K C CR)) (gf_same : mg "same" = some (.ref f_same)) (K_off : Keeps P w K mg base (L2.CX P w) 9 f_off (spR2 K C CR)) (gf_off : mg "off" = some (.ref f_off)) (K_two_numbers : Keeps P w K mg base (L2.CX P w) 9 f_two_numbers (spR2 K C CR)) (gf_two_numbers : mg "two_numbers" = some (.ref f_two_numbers)) (K_count_both : Keeps P w K mg base (L2.CX P w) 9 f_count_both (spR3 K C CR)) (gf_count_both : mg "count_both" = some (.ref f_count_both)) (K_misread : Keeps P w K mg base (L2.CX P w) 9 f_misread (spR3 K C CR)) (gf_misread : mg "misread" = some (.ref f_misread))
    (G2 : FnOk P w K mg base (L2.CX P w) 3 f_two_numbers fd2 ["one", "other"] (spR2 K C CR)) (k2 : PySem.W.keepIn K (.ref f_two_numbers) = true) (b2 : Binds K fd2 ["one", "other"] []) : FnOk P w K mg base (L2.CX P w) 10 f fd ["_law_kind", "_law_value"] (spLC K C CR) := by
  refine F.okX scLC (fun vs H Q E h => ?_) (fun cdv A outer s H vs Q E hr h => ?_)
  · obtain ⟨i, v, rfl, _⟩ := h
    rfl
  · obtain ⟨i, v, rfl, h0, h1, h, e⟩ := h
    refine ⟨_, (pss_cons (ps_set (i := 2) scLC.nd rfl (Or.inl rfl) (pe_make TR.mkR GI (hr.mono (by decide)) rfl TR.gR TR.bI .nil (passes_call (takes_of rfl rfl rfl rfl) (fun _ _ _ _ h => h)) (pa_cons pe_str (pa_cons pe_str (pa_cons pe_int (pa_cons pe_bl (pa_cons pe_str (pa_cons pe_bl (pa_cons pe_bl (pa_cons pe_bl pa_nil))))))))))
      (pss_one (ps_if (pt_cmpR op_lt (pv 0) pe_int (nomark _)) (pss_one (ps_expr (pe_callE (n := 9) (E := fun _ => E) (pe_ix ixLK (pe_lst (pa_cons (pe_glob (v := .ref f_parts) rfl gf_parts rfl) (pa_cons (pe_glob (v := .ref f_write) rfl gf_write rfl) pa_nil))) (pv 0) (fun _ _ => rfl)) (hr.mono (by decide)) (passAll (passes_call (takes_of rfl rfl rfl rfl) (fun _ _ _ _ h => h))) (pa_cons (pv 1) pa_nil)))) (pss_one (ps_if (pt_cmpR op_lt (pv 0) pe_int (nomark _)) (pss_one (ps_expr (pe_callE (n := 9) (E := fun _ => E) (pe_ix ixLK (pe_lst (pa_cons (pe_glob (v := .ref f_first_stop) rfl gf_first_stop rfl) (pa_cons (pe_glob (v := .ref f_means) rfl gf_means rfl) (pa_cons (pe_glob (v := .ref f_takes) rfl gf_takes rfl) (pa_cons (pe_glob (v := .ref f_count) rfl gf_count rfl) (pa_cons (pe_glob (v := .ref f_written) rfl gf_written rfl) (pa_cons (pe_glob (v := .ref f_alone) rfl gf_alone rfl) (pa_cons (pe_glob (v := .ref f_same) rfl gf_same rfl) (pa_cons (pe_glob (v := .ref f_off) rfl gf_off rfl) pa_nil))))))))) (pe_op op_sub (pv 0) pe_int) (fun _ _ => rfl)) (hr.mono (by decide)) (passAll (passes_call (takes_of rfl rfl rfl rfl) (fun _ _ _ _ h => h))) (pa_cons (pv 1) (pa_cons pe_non pa_nil))))) (pss_one (ps_if (pt_cmpR op_lt (pv 0) pe_int (nomark _)) (pss_one (ps_expr (pe_callE (n := 9) (E := fun _ => E) (pe_ix ixLK (pe_lst (pa_cons (pe_glob (v := .ref f_alone) rfl gf_alone rfl) (pa_cons (pe_glob (v := .ref f_same) rfl gf_same rfl) (pa_cons (pe_glob (v := .ref f_off) rfl gf_off rfl) (pa_cons (pe_glob (v := .ref f_two_numbers) rfl gf_two_numbers rfl) pa_nil))))) (pe_op op_sub (pv 0) pe_int) (fun _ _ => rfl)) (hr.mono (by decide)) (passAll (passes_call (takes_of rfl rfl rfl rfl) (fun _ _ _ _ h => h))) (pa_cons (pv 2) (pa_cons (pv 1) pa_nil))))) (pss_one (ps_if (pt_cmpR op_lt (pv 0) pe_int (nomark _)) (pss_one (ps_expr (pe_callE (n := 9) (E := fun _ => E) (pe_ix ixLK (pe_lst (pa_cons (pe_glob (v := .ref f_count_both) rfl gf_count_both rfl) (pa_cons (pe_glob (v := .ref f_misread) rfl gf_misread rfl) pa_nil))) (pe_op op_sub (pv 0) pe_int) (fun _ _ => rfl)) (hr.mono (by decide)) (passAll (passes_call (takes_of rfl rfl rfl rfl) (fun _ _ _ _ h => h))) (pa_cons (pv 1) (pa_cons pe_non (pa_cons pe_non pa_nil)))))) (pss_one (ps_if (pt_cmpR op_eq (pv 0) pe_int (nomark _)) (pss_one (ps_expr (pe_call G2 (hr.mono (by decide)) rfl gf_two_numbers k2 b2 .nil (passes_call (takes_of rfl rfl rfl rfl) (fun _ _ _ _ h => h)) (pa_cons (pv 1) (pa_cons pe_non pa_nil))))) (pss_one (ps_expr (pe_callE (n := 9) (E := fun _ => E) (pe_ix ixLK (pe_lst (pa_cons (pe_glob (v := .ref f_count_both) rfl gf_count_both rfl) (pa_cons (pe_glob (v := .ref f_misread) rfl gf_misread rfl) pa_nil))) (pe_op op_sub (pv 0) pe_int) (fun _ _ => rfl)) (hr.mono (by decide)) (passAll (passes_call (takes_of rfl rfl rfl rfl) (fun _ _ _ _ h => h))) (pa_cons (pv 2) (pa_cons (pv 1) (pa_cons pe_non pa_nil))))))))))))))))), ?_⟩
    refine fun x dx nx ndx nex => ⟨x, dx, p0.vs, rfl, rfl, upd_same, fun j hj => p0.valOk hj, fun nm ee => (by rw [p0_ok.first] at ee; cases ee), fun _ t H1 hx1 hx2 s1 => ⟨rfl, ?_⟩⟩
    have s0 : Same H H1 := fun b o e2 => s1 b o (ne_of_none e2 nx) (by rw [upd_ne (ne_of_none e2 nx), upd_ne (ne_of_none e2 ndx)]; exact e2)
    have rd : Good C H1 (.ref x) := ⟨x, p0.vs, rfl, dx, t, hx1, .inl hx2⟩
    have h' := h.same s0
    have e' : ∀ H', Same H1 H' → E (.ref CR) none H' := fun H' s' => e H' (s0.trans s')
    clear s1 hx1 hx2 nx ndx nex h e
    refine ⟨_, rfl, _, _, rfl, rfl, _, rfl, ite2 (fun c => ?_) fun c => ?_⟩
    · have c2 : i < 2 := of_decide_eq_true c
      refine ⟨by show 2 ≤ sizeLine; decide, fun l hl => ?_⟩
      obtain ⟨y, hy, my⟩ := pick (xs := [V.ref f_parts, .ref f_write]) h0 c2
      obtain ⟨fx, rfl, Kx⟩ : ∃ fx, y = .ref fx ∧ Keeps P w K mg base (L2.CX P w) 9 fx (spR1 K C CR) := by
        have hq : y = V.ref f_parts ∨ y = V.ref f_write := by simpa using my
        rcases hq with rfl | rfl
        · exact ⟨_, rfl, K_parts⟩
        · exact ⟨_, rfl, K_write⟩
      exact ⟨_, rfl, l, _, _, _, rfl, rfl, SqL.of upd_same, hy, fx, _, rfl, Kx, _, rfl, v, rfl, h'.same (Same.new hl), e' _ (Same.new hl)⟩
    have c2 : ¬ i < 2 := fun z => c (decide_eq_true z)
    clear c
    refine ⟨_, rfl, _, _, rfl, rfl, _, rfl, ite2 (fun c => ?_) fun c => ?_⟩
    · have c3 : i < 10 := of_decide_eq_true c
      refine ⟨by show 8 ≤ sizeLine; decide, fun l hl => ?_⟩
      have sl := Same.new (o := .lst [V.ref f_first_stop, .ref f_means, .ref f_takes, .ref f_count, .ref f_written, .ref f_alone, .ref f_same, .ref f_off]) hl
      obtain ⟨y, hy, my⟩ := pick (xs := [V.ref f_first_stop, .ref f_means, .ref f_takes, .ref f_count, .ref f_written, .ref f_alone, .ref f_same, .ref f_off]) (show 0 ≤ i - 2 by omega) (show i - 2 < 8 by omega)
      have hq : (y = V.ref f_first_stop ∨ y = V.ref f_means ∨ y = V.ref f_takes ∨ y = V.ref f_count ∨ y = V.ref f_written) ∨ y = V.ref f_alone ∨ y = V.ref f_same ∨ y = V.ref f_off := by
        have hq : y = V.ref f_first_stop ∨ y = V.ref f_means ∨ y = V.ref f_takes ∨ y = V.ref f_count ∨ y = V.ref f_written ∨ y = V.ref f_alone ∨ y = V.ref f_same ∨ y = V.ref f_off := by simpa using my
        rcases hq with h | h | h | h | h | h | h | h
        · exact .inl (.inl h)
        · exact .inl (.inr (.inl h))
        · exact .inl (.inr (.inr (.inl h)))
        · exact .inl (.inr (.inr (.inr (.inl h))))
        · exact .inl (.inr (.inr (.inr (.inr h))))
        · exact .inr (.inl h)
        · exact .inr (.inr (.inl h))
        · exact .inr (.inr (.inr h))
      rcases hq with hq | hq
      · obtain ⟨fx, rfl, Kx⟩ : ∃ fx, y = .ref fx ∧ Keeps P w K mg base (L2.CX P w) 9 fx (spR2a K C CR) := by
          rcases hq with rfl | rfl | rfl | rfl | rfl
          · exact ⟨_, rfl, K_first_stop⟩
          · exact ⟨_, rfl, K_means⟩
          · exact ⟨_, rfl, K_takes⟩
          · exact ⟨_, rfl, K_count⟩
          · exact ⟨_, rfl, K_written⟩
        exact ⟨_, rfl, _, _, rfl, rfl, l, _, _, _, rfl, rfl, SqL.of upd_same, hy, fx, _, rfl, Kx, _, rfl, v, _, rfl, h'.same sl, e' _ sl⟩
      · obtain ⟨fx, rfl, Kx⟩ : ∃ fx, y = .ref fx ∧ Keeps P w K mg base (L2.CX P w) 9 fx (spR2 K C CR) := by
          rcases hq with rfl | rfl | rfl
          · exact ⟨_, rfl, K_alone⟩
          · exact ⟨_, rfl, K_same⟩
          · exact ⟨_, rfl, K_off⟩
        exact ⟨_, rfl, _, _, rfl, rfl, l, _, _, _, rfl, rfl, SqL.of upd_same, hy, fx, _, rfl, Kx, _, rfl, v, _, rfl, .inl (h'.same sl), e' _ sl⟩
    have c3 : ¬ i < 10 := fun z => c (decide_eq_true z)
    clear c
    refine ⟨_, rfl, _, _, rfl, rfl, _, rfl, ite2 (fun c => ?_) fun c => ?_⟩
    · have c4 : i < 14 := of_decide_eq_true c
      refine ⟨by show 4 ≤ sizeLine; decide, fun l hl => ?_⟩
      have sl := Same.new (o := .lst [V.ref f_alone, .ref f_same, .ref f_off, .ref f_two_numbers]) hl
      obtain ⟨y, hy, my⟩ := pick (xs := [V.ref f_alone, .ref f_same, .ref f_off, .ref f_two_numbers]) (show 0 ≤ i - 10 by omega) (show i - 10 < 4 by omega)
      obtain ⟨fx, rfl, Kx⟩ : ∃ fx, y = .ref fx ∧ Keeps P w K mg base (L2.CX P w) 9 fx (spR2 K C CR) := by
        have hq : y = V.ref f_alone ∨ y = V.ref f_same ∨ y = V.ref f_off ∨ y = V.ref f_two_numbers := by simpa using my
        rcases hq with rfl | rfl | rfl | rfl
        · exact ⟨_, rfl, K_alone⟩
        · exact ⟨_, rfl, K_same⟩
        · exact ⟨_, rfl, K_off⟩
        · exact ⟨_, rfl, K_two_numbers⟩
      exact ⟨_, rfl, _, _, rfl, rfl, l, _, _, _, rfl, rfl, SqL.of upd_same, hy, fx, _, rfl, Kx, _, rfl, _, rfl, _, v, rfl, .inr ⟨good_same sl _ rd, h'.same sl⟩, e' _ sl⟩
    have c4 : ¬ i < 14 := fun z => c (decide_eq_true z)
    clear c
    refine ⟨_, rfl, _, _, rfl, rfl, _, rfl, ite2 (fun c => ?_) fun c => ?_⟩
    · have c5 : i < 16 := of_decide_eq_true c
      refine ⟨by show 2 ≤ sizeLine; decide, fun l hl => ?_⟩
      have sl := Same.new (o := .lst [V.ref f_count_both, .ref f_misread]) hl
      obtain ⟨y, hy, my⟩ := pick (xs := [V.ref f_count_both, .ref f_misread]) (show 0 ≤ i - 14 by omega) (show i - 14 < 2 by omega)
      obtain ⟨fx, rfl, Kx⟩ : ∃ fx, y = .ref fx ∧ Keeps P w K mg base (L2.CX P w) 9 fx (spR3 K C CR) := by
        have hq : y = V.ref f_count_both ∨ y = V.ref f_misread := by simpa using my
        rcases hq with rfl | rfl
        · exact ⟨_, rfl, K_count_both⟩
        · exact ⟨_, rfl, K_misread⟩
      exact ⟨_, rfl, _, _, rfl, rfl, l, _, _, _, rfl, rfl, SqL.of upd_same, hy, fx, _, rfl, Kx, _, rfl, v, _, _, rfl, .inl (h'.same sl), e' _ sl⟩
    have c5 : ¬ i < 16 := fun z => c (decide_eq_true z)
    clear c
    refine ⟨_, rfl, rfl, ?_⟩
    by_cases c6 : i = 16
    · exact ⟨true, eqI (by simp [c6]), iteT ⟨_, rfl, v, _, rfl, .inl h', e' _ (Same.refl _)⟩⟩
    · refine ⟨false, eqI (by simp [c6]), iteF ?_⟩
      refine ⟨by show 2 ≤ sizeLine; decide, fun l hl => ?_⟩
      have sl := Same.new (o := .lst [V.ref f_count_both, .ref f_misread]) hl
      obtain ⟨y, hy, my⟩ := pick (xs := [V.ref f_count_both, .ref f_misread]) (show 0 ≤ i - 17 by omega) (show i - 17 < 2 by omega)
      obtain ⟨fx, rfl, Kx⟩ : ∃ fx, y = .ref fx ∧ Keeps P w K mg base (L2.CX P w) 9 fx (spR3 K C CR) := by
        have hq : y = V.ref f_count_both ∨ y = V.ref f_misread := by simpa using my
        rcases hq with rfl | rfl
        · exact ⟨_, rfl, K_count_both⟩
        · exact ⟨_, rfl, K_misread⟩
      exact ⟨_, rfl, _, _, rfl, rfl, l, _, _, _, rfl, rfl, SqL.of upd_same, hy, fx, _, rfl, Kx, _, rfl, _, rfl, _, v, _, rfl, .inr ⟨good_same sl _ rd, h'.same sl⟩, e' _ sl⟩
def spLT (K : PySem.W.Frag) (C : Addr) : Sp := fun vs H Q _ => ∃ (i : Int) (v : V), vs = [.int i, v] ∧ 0 ≤ i ∧ i < 19 ∧ NoRd K C H v ∧ ∀ H', Same H H' → Q (.bl true) H'
theorem scLT : FnScope ["_law_kind", "_law_value", "_law_raised"] ["_law_kind", "_law_value"] (defScope sLT) := ⟨rfl, rfl, rfl, by decide +kernel, rfl, by decide +kernel, by decide +kernel⟩
theorem ok_ltold {f f1 : Addr} {fd fd1 : FuncData} (F : Fun K "_law_told" "_law_told" sLT f fd) (eR : ErrK K mg "BadReader" CR) (rr : PySem.W.exmOne K (.ref CR) (.ref CR) = some true)
    (G : FnOk P w K mg base (L2.CX P w) 10 f1 fd1 ["_law_kind", "_law_value"] (spLC K C CR)) (g : GFn K mg "_law_call" f1 fd1 ["_law_kind", "_law_value"]) : FnOk P w K mg base CX0 11 f fd ["_law_kind", "_law_value"] (spLT K C) := by
  refine F.ok scLT (fun vs H Q E h => ?_) (fun cdv A outer s H vs Q E hr h => ?_)
  · obtain ⟨i, v, rfl, _⟩ := h
    rfl
  · obtain ⟨i, v, rfl, h0, h1, h, k⟩ := h
    refine ⟨_, (pss_cons (ps_set (i := 2) scLT.nd rfl (Or.inl rfl) pe_bl)
      (pss_cons (ps_tryC (tb := fun W => tDrop (tCallS (spLC K C CR) (WE W) (tCons (tVar 0) (tCons (tVar 1) tNil)))) (l := [⟨.ref CR, none, fun _ _ _ => tAsg (tC (.bl true)) (gName 2)⟩]) (Wout := fun _ _ _ _ => False) rfl rfl scLT.nd takes0
        (fun W pn xe tk _ => pss_one (ps_expr (pe_callS G (hr.mono (by decide)) rfl g.g g.k g.b (fun σ => passAt tk σ) (pa_cons (pv 0) (pa_cons (pv 1) pa_nil)))))
        (.bare ⟨rfl, by decide, Or.inl eR.g⟩ (fun a oe cls d pn hz hf => pss_one (ps_set (i := 2) scLT.nd rfl (Or.inl rfl) pe_bl)) .nil))
      (pss_one (ps_ret (pv 2))))), ?_⟩
    exact ⟨_, rfl, _, rfl, i, v, rfl, h0, h1, h, fun H' s' => ⟨true, rr, fun _ a ha => ⟨_, rfl, k H' s'⟩, fun q => Bool.noConfusion q⟩⟩
def spLL (K : PySem.W.Frag) (C : Addr) : Sp := fun vs H Q _ => ∃ (i : Int) (v : V) (o : Option Nat), vs = [.int i, v] ∧ 0 ≤ i ∧ i < 6 ∧ BadRds K C v H o ∧ ∀ l H', Same H H' → H' l = some (.lst [oixV o]) → Q (.ref l) H'
theorem scLL : FnScope ["_law_kind", "_law_value", "_law_found", "e"] ["_law_kind", "_law_value"] (defScope sLL) := ⟨rfl, rfl, rfl, by decide +kernel, rfl, by decide +kernel, by decide +kernel⟩
theorem ok_llot {f f0 f1 f_safety f_shortest f_takers f_ways : Addr} {fd fd0 fd1 : FuncData} (F : Fun K "_law_lot" "_law_lot" sLL f fd) (BRs : BadTxt P K mg "BadReaders" "index" CRs fRs) (rr : PySem.W.exmOne K (.ref CRs) (.ref CRs) = some true)
    (GP : FnOk P w K mg base (L2.CX P w) 4 f0 fd0 ["readers"] (spRd1 K C CRs)) (gP : GFn K mg "parting" f0 fd0 ["readers"])
    (mkC : Mk K CC f1) (CI : FnOk P w K mg base (L2.CX P w) 4 f1 fd1 ["self", "readers"] (spCIB K C CRs)) (gC : mg "Column" = some (.ref CC)) (cB : Binds K fd1 ["self", "readers"] [])
    (K1 : Keeps P w K mg base (L2.CX P w) 9 f_safety (spRd2 K C CRs)) (gf_safety : mg "safety" = some (.ref f_safety)) (K2 : Keeps P w K mg base (L2.CX P w) 9 f_shortest (spRd2 K C CRs)) (gf_shortest : mg "shortest" = some (.ref f_shortest))
    (K3 : Keeps P w K mg base (L2.CX P w) 9 f_takers (spRd2 K C CRs)) (gf_takers : mg "takers" = some (.ref f_takers)) (K4 : Keeps P w K mg base (L2.CX P w) 9 f_ways (spRd2 K C CRs)) (gf_ways : mg "ways" = some (.ref f_ways)) : FnOk P w K mg base CX0 10 f fd ["_law_kind", "_law_value"] (spLL K C) := by
  refine F.ok scLL (fun vs H Q E h => ?_) (fun cdv A outer s H vs Q E hr h => ?_)
  · obtain ⟨i, v, o, rfl, _⟩ := h
    rfl
  · obtain ⟨i, v, o, rfl, h0, h1, b, k⟩ := h
    refine ⟨_, (pss_cons (ps_set (i := 2) scLL.nd rfl (Or.inl rfl) (pe_lst pa_nil))
      (pss_cons (ps_tryC (tb := fun W => tIfS (tTest (tOp rEq (tVar 0) (tC (.int 0)))) (tDrop (tCallS (spRd1 K C CRs) (WE W) (tCons (tVar 1) tNil))) (tIfS (tTest (tOp rEq (tVar 0) (tC (.int 1)))) (tDrop (tMakeS CC (spCIB K C CRs) (WE W) (tCons (tVar 1) tNil))) (tDrop (tCallE P w K mg base (L2.CX P w) 9 (WE W) (tOp (rIxL K) (tLst (tCons (tC (.ref f_safety)) (tCons (tC (.ref f_shortest)) (tCons (tC (.ref f_takers)) (tCons (tC (.ref f_ways)) tNil))))) (tOp (rI0 fun i j => .int (i - j)) (tVar 0) (tC (.int 2)))) (tCons (tVar 1) (tCons (tC .non) tNil)))))) (l := [⟨.ref CRs, some 3, fun a cls d => tAsg (tLst (tCons (tByBad CRs "index" a cls d (tVar 3)) tNil)) (gName 2)⟩]) (Wout := fun _ _ _ _ => False) rfl rfl scLL.nd takes0
        (fun W pn xe tk _ => pss_one (ps_if (pt_cmpR op_eq (pv 0) pe_int (nomark _)) (pss_one (ps_expr (pe_callS GP (hr.mono (by decide)) rfl gP.g gP.k gP.b (fun σ => passAt tk σ) (pa_cons (pv 1) pa_nil)))) (pss_one (ps_if (pt_cmpR op_eq (pv 0) pe_int (nomark _)) (pss_one (ps_expr (pe_makeS mkC CI (hr.mono (by decide)) rfl gC cB (fun σ => passAt tk σ) (pa_cons (pv 1) pa_nil)))) (pss_one (ps_expr (pe_callE (n := 9) (E := WE W) (pe_ix ixLK (pe_lst (pa_cons (pe_glob (v := .ref f_safety) rfl gf_safety rfl) (pa_cons (pe_glob (v := .ref f_shortest) rfl gf_shortest rfl) (pa_cons (pe_glob (v := .ref f_takers) rfl gf_takers rfl) (pa_cons (pe_glob (v := .ref f_ways) rfl gf_ways rfl) pa_nil))))) (pe_op op_sub (pv 0) pe_int) (fun _ _ => rfl)) (hr.mono (by decide)) (fun σ => passAt tk σ) (pa_cons (pv 1) (pa_cons pe_non pa_nil)))))))))
        (.named ⟨rfl, by decide, Or.inl BRs.gC⟩ rfl rfl (fun a oe cls d pn hz hf => pss_one (ps_set (i := 2) scLL.nd rfl (Or.inl rfl) (pe_lst (pa_cons (pe_byBad BRs hz hf (pv 3)) pa_nil)))) .nil))
      (pss_one (ps_ret (pv 2))))), ?_⟩
    refine ⟨by show 0 ≤ sizeLine; decide, fun q hq => ?_⟩
    have sq := Same.new (o := .lst []) hq
    refine ⟨_, rfl, rfl, _, rfl, ite2 (fun c => ?_) fun c => ?_⟩
    · exact ⟨_, rfl, v, o, rfl, badR_same b sq, fun d H' s' hd => ⟨true, rr, fun _ a0 ha0 => ⟨_, rfl, rfl, rfl, d, _, rfl, hd, (by show 1 ≤ sizeLine; decide), fun l2 hl2 => ⟨_, rfl, k _ _ ((sq.trans s').trans (Same.new hl2)) upd_same⟩⟩, fun q => Bool.noConfusion q⟩⟩
    have c0 : ¬ i = 0 := fun z => c (decide_eq_true (congrArg V.int z))
    refine ⟨_, rfl, rfl, _, rfl, ite2 (fun c => ?_) fun c => ?_⟩
    · refine ⟨_, rfl, fun x dx nx ndx nex => ?_⟩
      have s2 : Same H (L2.upd (L2.upd _ dx (.own x)) x (.ins CC dx [])) := sq.trans fun b o e2 => (by rw [upd_ne (ne_of_none e2 nx), upd_ne (ne_of_none e2 ndx)]; exact e2)
      exact ⟨_, v, o, rfl, badR_same b s2, fun d H' s' hd => ⟨true, rr, fun _ a0 ha0 => ⟨_, rfl, rfl, rfl, d, _, rfl, hd, (by show 1 ≤ sizeLine; decide), fun l2 hl2 => ⟨_, rfl, k _ _ ((s2.trans s').trans (Same.new hl2)) upd_same⟩⟩, fun q => Bool.noConfusion q⟩⟩
    have c1 : ¬ i = 1 := fun z => c (decide_eq_true (congrArg V.int z))
    refine ⟨by show 4 ≤ sizeLine; decide, fun l hl => ?_⟩
    have s2 := sq.trans (Same.new (o := .lst [.ref f_safety, .ref f_shortest, .ref f_takers, .ref f_ways]) hl)
    obtain ⟨x, hx, mx⟩ := pick (xs := [V.ref f_safety, .ref f_shortest, .ref f_takers, .ref f_ways]) (v := i - 2) (by omega) (by show i - 2 < 4; omega)
    obtain ⟨fx, rfl, Kx⟩ : ∃ fx, x = .ref fx ∧ Keeps P w K mg base (L2.CX P w) 9 fx (spRd2 K C CRs) := by
      have hq : x = V.ref f_safety ∨ x = V.ref f_shortest ∨ x = V.ref f_takers ∨ x = V.ref f_ways := by simpa using mx
      rcases hq with rfl | rfl | rfl | rfl
      · exact ⟨_, rfl, K1⟩
      · exact ⟨_, rfl, K2⟩
      · exact ⟨_, rfl, K3⟩
      · exact ⟨_, rfl, K4⟩
    exact ⟨_, rfl, _, _, rfl, rfl, l, _, _, _, rfl, rfl, SqL.of upd_same, hx, fx, _, rfl, Kx, _, rfl, v, _, o, rfl, badR_same b s2, fun d H' s' hd => ⟨true, rr, fun _ a0 ha0 => ⟨_, rfl, rfl, rfl, d, _, rfl, hd, (by show 1 ≤ sizeLine; decide), fun l2 hl2 => ⟨_, rfl, k _ _ ((s2.trans s').trans (Same.new hl2)) upd_same⟩⟩, fun q => Bool.noConfusion q⟩⟩
def spLaw (K : PySem.W.Frag) : Sp := fun vs H Q _ => ∃ (sc : Addr) (ns : List Int), vs = [.ref sc] ∧ ScL K H sc (ns.map V.int) ∧ ∀ H', Q (.bl true) H'
theorem scLw : FnScope ["_law_script", "_law_row", "_law_turn", "_law_bad", "_law_good", "_law_at"] ["_law_script"] (defScope sLaw) := ⟨rfl, rfl, rfl, by decide +kernel, rfl, by decide +kernel, by decide +kernel⟩
theorem ok_law {f f1 f2 f3 f4 f5 f6 : Addr} {fd fd1 fd2 fd3 fd4 fd5 fd6 : FuncData} (F : Fun K "law" "law" sLaw f fd) (T : TBl mg) (ic : C8.InsC K C) (rl : PySem.W.kitOne K (.ref C) (.type "list") = some false) (rt : PySem.W.kitOne K (.ref C) (.type "tuple") = some false)
    (tk : FnOk P w K mg base CX0 1 f1 fd1 ["_law_row", "_law_many"] (spTaken K)) (tkG : TkG K mg f1 fd1) (pa : FnOk P w K mg base CX0 2 f2 fd2 ["_law_row"] (spParts K)) (paG : GFn K mg "_law_parts" f2 fd2 ["_law_row"])
    (md : FnOk P w K mg base (L2.CX P w) 5 f3 fd3 ["_law_told_here"] (spMade K C CB)) (mdG : GFn K mg "_law_made" f3 fd3 ["_law_told_here"]) (od : FnOk P w K mg base CX0 2 f4 fd4 ["_law_row"] (spOR K C)) (odG : GFn K mg "_law_odd_reader" f4 fd4 ["_law_row"])
    (to : FnOk P w K mg base CX0 11 f5 fd5 ["_law_kind", "_law_value"] (spLT K C)) (toG : GFn K mg "_law_told" f5 fd5 ["_law_kind", "_law_value"]) (lo : FnOk P w K mg base CX0 10 f6 fd6 ["_law_kind", "_law_value"] (spLL K C)) (loG : GFn K mg "_law_lot" f6 fd6 ["_law_kind", "_law_value"]) : FnOk P w K mg base CX0 12 f fd ["_law_script"] (spLaw K) := by
  refine F.ok scLw (fun vs H Q E h => ?_) (fun cdv A outer s H vs Q E hr h => ?_)
  · obtain ⟨sc, ns, rfl, _⟩ := h
    rfl
  · obtain ⟨sc, ns, rfl, hsc, k⟩ := h
    refine ⟨_, (pss_cons (ps_set (i := 1) scLw.nd rfl (Or.inl rfl) (pe_lst (pa_cons (pv 0) (pa_cons pe_int (pa_cons pe_int (pa_cons pe_int pa_nil))))))
      (pss_cons (ps_for PassesOwn.never rfl (pi_range1 rfl T.range (pa_cons pe_int pa_nil)) (pg_name (i := 2) scLw.nd rfl (Or.inl rfl)) (pss_cons (ps_par (i := 3) (j := 4) rfl scLw.nd rfl rfl (by decide) rfl rfl (pa_cons (pe_call od (hr.mono (by decide)) rfl odG.g odG.k odG.b .nil pass0 (pa_cons (pv 1) pa_nil)) (pa_cons (pe_call md (hr.mono (by decide)) rfl mdG.g mdG.k mdG.b .nil passL (pa_cons (pe_call pa (hr.mono (by decide)) rfl paG.g paG.k paG.b .nil pass0 (pa_cons (pv 1) pa_nil)) pa_nil)) pa_nil)) rfl)
      (pss_cons (ps_if (pt_not (pt_val (pe_call to (hr.mono (by decide)) rfl toG.g toG.k toG.b .nil pass0 (pa_cons (pe_call tk (hr.mono (by decide)) rfl tkG.g tkG.k tkG.b .nil pass0 (pa_cons (pv 1) (pa_cons pe_int pa_nil))) (pa_cons (pv 3) pa_nil))))) (pss_one (ps_ret pe_bl)) pss_nil)
      (pss_cons (ps_set (i := 5) scLw.nd rfl (Or.inl rfl) (pe_call tk (hr.mono (by decide)) rfl tkG.g tkG.k tkG.b .nil pass0 (pa_cons (pv 1) (pa_cons pe_int pa_nil))))
      (pss_cons (ps_if (pt_cmpR (op_neD hr.units) (pe_call lo (hr.mono (by decide)) rfl loG.g loG.k loG.b .nil pass0 (pa_cons (pe_call tk (hr.mono (by decide)) rfl tkG.g tkG.k tkG.b .nil pass0 (pa_cons (pv 1) (pa_cons pe_int pa_nil))) (pa_cons (pe_op op_cat (pe_op op_rep (pe_lst (pa_cons (pv 4) pa_nil)) (pv 5)) (pe_lst (pa_cons (pv 3) pa_nil))) pa_nil))) (pe_lst (pa_cons (pv 5) pa_nil)) (nomark _)) (pss_one (ps_ret pe_bl)) pss_nil)
      (pss_one (ps_if (pt_cmpR (op_neD hr.units) (pe_call lo (hr.mono (by decide)) rfl loG.g loG.k loG.b .nil pass0 (pa_cons (pe_call tk (hr.mono (by decide)) rfl tkG.g tkG.k tkG.b .nil pass0 (pa_cons (pv 1) (pa_cons pe_int pa_nil))) (pa_cons (pe_ix ix_list (pe_lst (pa_cons pe_non (pa_cons (pe_tup pa_nil) (pa_cons (pe_lst pa_nil) (pa_cons (pe_op op_rep (pe_lst (pa_cons (pv 4) pa_nil)) pe_int) (pa_cons (pv 4) (pa_cons pe_int (pa_cons pe_dnewK pa_nil)))))))) (pe_call tk (hr.mono (by decide)) rfl tkG.g tkG.k tkG.b .nil pass0 (pa_cons (pv 1) (pa_cons pe_int pa_nil))) (fun _ _ => rfl)) pa_nil))) (pe_lst (pa_cons pe_non pa_nil)) (nomark _)) (pss_one (ps_ret pe_bl)) pss_nil)))))))
      (pss_one (ps_ret pe_bl)))), ?_⟩
    refine ⟨_, rfl, (by show 4 ≤ sizeLine; decide), fun a ha => ?_⟩
    have R0 : RowOk K (L2.upd H a (.lst (rowV sc 0 102 0))) a := ⟨sc, ns, 0, 102, 0, upd_same, hsc.same (Same.new ha), Int.le_refl 0⟩
    refine ⟨12, rfl, by decide, by decide, for_range (lo := 0) (n := 12) (fun i σ H' => (∃ v2 v3 v4 v5, σ = [some (.ref sc), some (.ref a), v2, v3, v4, v5]) ∧ RowOk K H' a)
      ⟨⟨_, _, _, _, rfl⟩, R0⟩ ?_ (fun σ H' _ => k _)⟩
    rintro i σ H0 hi ⟨⟨v2, v3, v4, v5, rfl⟩, R⟩
    clear R0 hsc ha
    refine ⟨_, rfl, a, rfl, R, fun bad H1 hbad R1 B1 => ?_⟩
    refine ⟨_, rfl, a, rfl, R1, fun p t H2 hp R2 B2 ht => ?_⟩
    refine ⟨t, p.vs, rfl, .inl (SqT.of ht), rfl, fun i hi => p.valOk hi, fun nm e _ _ _ _ => (by rw [hp.first] at e; cases e), fun _ x H3 hx s3 => ?_⟩
    have S3 : S02 K C a x p.vs bad H3 := ⟨R2.same s3, hx, (hbad.but R1 R2 B2).same s3⟩
    clear hbad R1 R2 hx s3 ht B1 B2 R
    refine ⟨_, _, rfl, ?_⟩
    refine ⟨_, rfl, a, 19, rfl, by decide, by decide, S3.R, fun kd H4 k0 k1 R4 B4 => ?_⟩
    have S4 := S3.but R4 B4
    refine ⟨_, rfl, kd, bad, rfl, k0, k1, S4.nb, fun H5 s5 => ⟨true, rfl, iteF ?_⟩⟩
    have S5 := S4.same s5
    clear S3 S4 R4 B4 k0 k1 s5
    refine ⟨_, rfl, a, 3, rfl, by decide, by decide, S5.R, fun at' H6 a0 a1 R6 B6 => ?_⟩
    obtain ⟨j, rfl⟩ : ∃ j : Nat, at' = (j : Int) := ⟨at'.toNat, by omega⟩
    have j3 : j < 3 := by omega
    have S6 := S5.but R6 B6
    clear S5 R6 B6 a0 a1
    refine ⟨_, rfl, a, 6, rfl, by decide, by decide, S6.R, fun kd H7 k0 k1 R7 B7 => ?_⟩
    have S7 := S6.but R7 B7
    clear S6 R7 B7
    refine ⟨_, rfl, by show 1 ≤ sizeLine; decide, fun l1 h1 => ?_⟩
    refine ⟨_, rfl, l1, _, _, rfl, rfl, upd_same, by omega, by omega, Nat.le_of_lt (small1000 (by simp; omega)), fun l2 h2 => ?_⟩
    refine ⟨_, rfl, by show 1 ≤ sizeLine; decide, fun l3 h3 => ?_⟩
    have er : (List.replicate (j : Int).toNat [V.ref x]).flatten = List.replicate j (V.ref x) := by simp
    have e2 : upd (upd (upd H7 l1 (.lst [V.ref x])) l2 (.lst (List.replicate (j : Int).toNat [V.ref x]).flatten)) l3 (.lst [bad]) l2 = some (.lst (List.replicate j (V.ref x))) := by
      rw [← er]
      exact Same.new h3 _ _ upd_same
    refine ⟨l2, l3, _, _, rfl, rfl, e2, upd_same, Nat.le_of_lt (small1000 (by simp; omega)), fun so hso => ?_⟩
    have s5 := (((Same.new (o := .lst [V.ref x]) h1).trans (Same.new (o := .lst (List.replicate (j : Int).toNat [V.ref x]).flatten) h2)).trans (Same.new (o := .lst [bad]) h3)).trans (Same.new (o := .lst (List.replicate j (V.ref x) ++ [bad])) hso)
    have S8 := S7.same s5
    refine ⟨kd, _, some j, rfl, k0, k1, .item (xs := List.replicate j (V.ref x) ++ [bad]) (i := j) (x := bad) rfl upd_same (by simp) (by simp; omega) (by simp) (fun i y hi hy => ?_) S8.nb, fun l8 H8 sY hl8 => ?_⟩
    · rw [List.getElem?_append_left (by simpa using hi)] at hy
      simp [hi] at hy
      exact ⟨x, _, hy.symm, S8.rd⟩
    refine ⟨_, rfl, by show 1 ≤ sizeLine; decide, fun l9 hl9 => ?_⟩
    obtain ⟨d, dp1, dp2, ds⟩ := told1 (K := K) (o := some j) (Same.new (o := .lst [.int (j : Nat)]) hl9 _ _ hl8) upd_same
    refine ⟨d, d, dp1, dp2, ds, ds, _, rfl, ?_⟩
    rw [eqv_self ds]
    refine iteF ?_
    have S9 := S8.same (sY.trans (Same.new (o := .lst [.int (j : Nat)]) hl9))
    clear dp1 dp2 ds d hl8 hl9 sY S8 S7 s5 e2 er h1 h2 h3 hso k0 k1
    generalize upd H8 l9 (.lst [.int (j : Nat)]) = H9 at *
    -- no readers
    refine ⟨_, rfl, a, 6, rfl, by decide, by decide, S9.R, fun kd2 HA k20 k21 RA BA => ?_⟩
    have SA := S9.but RA BA
    clear S9 RA BA
    refine ⟨by show 0 ≤ sizeLine; decide, fun q1 g1 => ⟨by show 0 ≤ sizeLine; decide, fun q2 g2 => ⟨_, rfl, by show 1 ≤ sizeLine; decide, fun q3 g3 => ?_⟩⟩⟩
    refine ⟨q3, 5, _, rfl, rfl, upd_same, by decide, by decide, Nat.le_of_lt (small1000 (by simp)), fun q4 g4 => ⟨_, rfl, fun d g5 => ?_⟩⟩
    refine ⟨by show 7 ≤ sizeLine; decide, fun q6 g6 => ?_⟩
    have T1 := SA.R.new (o := .tup []) g1
    have T2 := T1.new (o := .lst []) g2
    have T3 := T2.new (o := .lst [V.ref x]) g3
    have T4 := T3.new (o := .lst (List.replicate (5 : Int).toNat [V.ref x]).flatten) g4
    have T5 := T4.new (o := .dK []) g5
    have S := (((((Same.new (o := .tup []) g1).trans (Same.new (o := .lst []) g2)).trans (Same.new (o := .lst [V.ref x]) g3)).trans (Same.new (o := .lst (List.replicate (5 : Int).toNat [V.ref x]).flatten) g4)).trans (Same.new (o := .dK []) g5)).trans (Same.new (o := .lst [.non, .ref q1, .ref q2, .ref q4, .ref x, .int 0, .ref d]) g6)
    refine ⟨_, rfl, a, 7, rfl, by decide, by decide, T5.new g6, fun w1 HB w10 w11 RB BB => ?_⟩
    obtain ⟨y, hy, my⟩ := pick (xs := [V.non, .ref q1, .ref q2, .ref q4, .ref x, .int 0, .ref d]) w10 w11
    have SB := (SA.same S).but RB BB
    have hnn : BadRds K C y HB none := by
      have z : y = V.non ∨ y = V.ref q1 ∨ y = V.ref q2 ∨ y = V.ref q4 ∨ y = V.ref x ∨ y = V.int 0 ∨ y = V.ref d := by simpa using my
      rcases z with rfl | rfl | rfl | rfl | rfl | rfl | rfl
      · exact .no (.of (.base .non) (by decide +kernel) (by decide +kernel))
      · exact .len (xs := []) rfl (.inr (BB q1 _ (SA.R.ne g1) (Same.new g6 _ _ (Same.new g5 _ _ (Same.new g4 _ _ (Same.new g3 _ _ (Same.new g2 _ _ upd_same))))))) (by simp)
      · exact .len (xs := []) rfl (.inl (BB q2 _ (T1.ne g2) (Same.new g6 _ _ (Same.new g5 _ _ (Same.new g4 _ _ (Same.new g3 _ _ upd_same)))))) (by simp)
      · exact .len rfl (.inl (BB q4 _ (T3.ne g4) (Same.new g6 _ _ (Same.new g5 _ _ upd_same)))) (by simp)
      · obtain ⟨dx, tt, e, _⟩ := SB.rd
        exact .no ⟨_, .base (TyOf.ins e ic.cl ic.ha ic.hn ic.htk ic.hm), kitAny_cons rl (fun _ => kitAny_cons rt (fun _ => rfl) fun z => Bool.noConfusion z) fun z => Bool.noConfusion z⟩
      · exact .no (.of (.base (.int _)) (by decide +kernel) (by decide +kernel))
      · exact .no (.of (.base (.dK (BB d _ (T4.ne g5) (Same.new g6 _ _ upd_same)))) (by decide +kernel) (by decide +kernel))
    refine ⟨q6, _, _, _, rfl, rfl, SqL.of (BB q6 _ (T5.ne g6) upd_same), hy, ?_⟩
    refine ⟨kd2, _, none, rfl, k20, k21, hnn, fun l8 H8 sY hl8 => ?_⟩
    refine ⟨by show 1 ≤ sizeLine; decide, fun l9 hl9 => ?_⟩
    obtain ⟨dd, dp1, dp2, ds⟩ := told1 (K := K) (o := none) (Same.new (o := .lst [.non]) hl9 _ _ hl8) upd_same
    refine ⟨dd, dd, dp1, dp2, ds, ds, _, rfl, ?_⟩
    rw [eqv_self ds]
    exact iteF ⟨⟨_, _, _, _, rfl⟩, (SB.same (sY.trans (Same.new (o := .lst [.non]) hl9))).R⟩
end
end Ra

namespace RaHd
open PySem PySem.W PySem.Calls PyProof.Rows
abbrev R : OpenRow := OpenLaw.row PySem.Challenge.rw_readersapart_k02_no_readers
def top (i : Nat) : Stmt := PySem.Challenge.pw_readersapart_k02_no_readers.main.body.getD i (.Pass ⟨0, 0, 0, 0⟩)
abbrev inC := L2.inClass
abbrev fA := L2.defArgs
abbrev fB := L2.defBody
abbrev fS := L2.defScope
def e (P : Params) (x : Str) (t : Nat) (v : Value) : DictEntry := ⟨PyData.keyHash P x, .str x t, v⟩
def heap (P : Params) : Frag :=
  (nat_lit 2, ⟨.none, none, .dict [].toArray 0, [].toArray⟩) ::
  (nat_lit 3, ⟨.type "dict", none, .dict [e P "__name__" 165 (.str "law_readersapart_k02_no_readers" 1314), e P "__doc__" 166 (.none), e P "__package__" 167 (.none), e P "__loader__" 168 (.builtin "__main__.__loader__#opaque"), e P "__spec__" 169 (.none), e P "__annotations__" 170 (.ref 6), e P "__builtins__" 171 (.ref 4), e P "__file__" 173 (.str "/claim/cut.py" 172), e P "__cached__" 174 (.none), e P "_wall" 193 (.ref 21), e P "ReaderError" 213 (.ref 31), e P "BadPart" 240 (.ref 53), e P "BadReader" 256 (.ref 65), e P "BadReaders" 283 (.ref 86), e P "BadText" 299 (.ref 98), e P "BadTexts" 326 (.ref 119), e P "NotTaken" 353 (.ref 140), e P "BadNumber" 369 (.ref 152), e P "BadLength" 385 (.ref 164), e P "CHOICES" 409 (.ref 183), e P "MOST_READERS" 411 (.int 4 410), e P "Reader" 522 (.ref 271), e P "parts" 529 (.ref 282), e P "check_reader" 536 (.ref 289), e P "check_readers" 545 (.ref 296), e P "_first_wrong" 555 (.ref 303), e P "_is_among" 561 (.ref 308), e P "_clashes" 569 (.ref 315), e P "LONGEST" 573 (.int 100 572), e P "MOST_TEXTS" 575 (.int 20 574), e P "MOST_LENGTH" 577 (.int 30 576), e P "MOST_WORTH" 581 (.int 1000000000000000000000000000000 580), e P "MOST_POWER" 583 (.int 30 582), e P "check_text" 590 (.ref 322), e P "check_texts" 599 (.ref 329), e P "check_length" 606 (.ref 336), e P "check_number" 613 (.ref 343), e P "is_number" 622 (.ref 350), e P "is_plain_integer" 629 (.ref 357), e P "_is_text" 636 (.ref 364), e P "FIGURES" 640 (.str "0123456789" 639), e P "START" 643 (.ref 365), e P "MINUS" 646 (.ref 366), e P "NOUGHT" 649 (.ref 367), e P "POINT" 652 (.ref 368), e P "FRACTION" 655 (.ref 369), e P "LETTER" 658 (.ref 370), e P "LESS" 661 (.ref 371), e P "TURNED" 664 (.ref 372), e P "END" 667 (.ref 373), e P "MANY" 669 (.int 4 668), e P "BEFORE_FIGURES" 675 (.ref 374), e P "step" 684 (.ref 381), e P "lacking" 693 (.ref 388), e P "_behind_figure" 705 (.ref 395), e P "_longer_plain" 713 (.ref 402), e P "_behind_comma" 723 (.ref 409), e P "_behind_minus" 731 (.ref 416), e P "_behind_letter" 739 (.ref 423), e P "_behind_blank" 746 (.ref 430), e P "_whole_ends" 753 (.ref 437), e P "_number_ends" 760 (.ref 444), e P "takes" 770 (.ref 451), e P "first_stop" 781 (.ref 458), e P "means" 790 (.ref 465), e P "number_if_taken" 798 (.ref 472), e P "number_of" 813 (.ref 479), e P "plain_number" 821 (.ref 486), e P "_goes_through" 831 (.ref 493), e P "_around_point" 842 (.ref 500), e P "SIGNS" 861 (.ref 509), e P "least_text" 872 (.ref 516), e P "first_arrivals" 889 (.ref 523), e P "tally" 907 (.ref 530), e P "some_go_on" 913 (.ref 535), e P "all_go_on" 919 (.ref 540), e P "all_take" 926 (.ref 547), e P "are_unlike" 933 (.ref 554), e P "start_of" 939 (.ref 559), e P "moves_from" 945 (.ref 564), e P "_behind" 957 (.ref 571), e P "marks_of" 963 (.ref 576), e P "_mark" 970 (.ref 583), e P "safety" 980 (.ref 590), e P "safety_of" 986 (.ref 595), e P "parting" 993 (.ref 602), e P "takers" 999 (.ref 607), e P "ways" 1005 (.ref 612), e P "numbers_for" 1011 (.ref 617), e P "_rows_of_numbers" 1017 (.ref 622), e P "Column" 1105 (.ref 691), e P "off" 1117 (.ref 702), e P "alone" 1127 (.ref 709), e P "two_numbers" 1135 (.ref 716), e P "same" 1143 (.ref 723), e P "count" 1149 (.ref 728), e P "count_both" 1155 (.ref 733), e P "_check_pair" 1163 (.ref 740), e P "_first_goes_on" 1170 (.ref 747), e P "_just_first_takes" 1177 (.ref 754), e P "_mean_two" 1184 (.ref 761), e P "SIGN_WORDS" 1202 (.ref 762), e P "FLAGS" 1207 (.ref 763), e P "write" 1213 (.ref 768), e P "_word" 1220 (.ref 775), e P "written" 1230 (.ref 782), e P "misread" 1240 (.ref 789), e P "shortest" 1246 (.ref 794), e P "text_of" 1254 (.ref 801), e P "_short_texts" 1268 (.ref 808), e P "_powers" 1278 (.ref 815), e P "_signed" 1287 (.ref 822), e P "_size" 1302 (.ref 829), e P "_in_groups" 1313 (.ref 836), e P "_law_taken" 1325 (.ref 843), e P "_law_parts" 1337 (.ref 850), e P "_law_made" 1352 (.ref 857), e P "_law_odd_reader" 1360 (.ref 864), e P "_law_call" 1369 (.ref 871), e P "_law_told" 1378 (.ref 878), e P "_law_lot" 1388 (.ref 885), e P "law" 1400 (.ref 892)].toArray 122, [].toArray⟩) ::
  (nat_lit 15, ⟨.type "tuple", none, .seq [].toArray 0, [].toArray⟩) ::
  (nat_lit 17, ⟨.type "tuple", none, .seq [.str "k" 190].toArray 0, [].toArray⟩) ::
  (nat_lit 18, ⟨.type "tuple", none, .seq [].toArray 0, [].toArray⟩) ::
  (nat_lit 20, ⟨.type "code", none, .fields [.str "_wall" 187, .str "_wall" 188, .str "/claim/cut.py" 189, .int 1 0, .int 1 0, .int 0 0, .int 0 0, .int 3 0, .ref 15, .bool true, .int 181 0, .ref 16, .none, .ref 17, .ref 18, .ref 19, .int 191 0, .int 1 0, .str "/claim/cut.py" 192].toArray, [].toArray⟩) ::
  (nat_lit 21, ⟨.type "function", none, .func ⟨"_wall", "_wall", fA (top 0), .stmts (fB (top 0)), fS (top 0), 3, [], .none, .none, .none, .str "__main__" 164, none, .ref 20, .none, 0⟩, [].toArray⟩) ::
  (nat_lit 22, ⟨.type "tuple", none, .seq [.type "ValueError"].toArray 0, [].toArray⟩) ::
  (nat_lit 29, ⟨.type "tuple", none, .seq [].toArray 0, [].toArray⟩) ::
  (nat_lit 30, ⟨.type "dict", none, .dict [e P "__module__" 203 (.str "readersapart.errors" 194), e P "__firstlineno__" 207 (.int 5 206), e P "__static_attributes__" 208 (.ref 29), e P "__weakref__" 210 (.ref 32), e P "__doc__" 211 (.none)].toArray 3, [].toArray⟩) ::
  (nat_lit 31, ⟨.type "type", none, .cls ⟨"ReaderError", [.type "ValueError"], [.ref 31, .type "ValueError", .type "Exception", .type "BaseException", .type "object"], 30, "ReaderError", true, [], [.ref 53, .ref 65, .ref 86, .ref 98, .ref 119, .ref 140, .ref 152, .ref 164], false, none, false⟩, [some (.ref 22), none, some (.str "ReaderError" 196), some (.str "ReaderError" 204), some (.builtin "ValueError.__new__"), some (.bool true)].toArray⟩) ::
  (nat_lit 32, ⟨.type "getset_descriptor", none, .fields [.str "__weakref__" 209, .ref 31, .builtin "ExceptionGroup.__weakref__", .none].toArray, [].toArray⟩) ::
  (nat_lit 35, ⟨.type "tuple", none, .seq [.ref 31].toArray 0, [].toArray⟩) ::
  (nat_lit 38, ⟨.type "cell", none, .cell (some (.ref 53)), [].toArray⟩) ::
  (nat_lit 43, ⟨.type "tuple", none, .seq [.ref 38].toArray 0, [].toArray⟩) ::
  (nat_lit 44, ⟨.type "tuple", none, .seq [.str "__class__" 229].toArray 0, [].toArray⟩) ::
  (nat_lit 46, ⟨.type "tuple", none, .seq [.str "self" 230, .str "part" 231].toArray 0, [].toArray⟩) ::
  (nat_lit 47, ⟨.type "tuple", none, .seq [].toArray 0, [].toArray⟩) ::
  (nat_lit 49, ⟨.type "code", none, .fields [.str "__init__" 226, .str "BadPart.__init__" 227, .str "/claim/cut.py" 228, .int 9 0, .int 2 0, .int 0 0, .int 0 0, .int 3 0, .ref 44, .bool true, .int 181 0, .ref 45, .none, .ref 46, .ref 47, .ref 48, .int 232 0, .int 9 0, .str "/claim/cut.py" 233].toArray, [].toArray⟩) ::
  (nat_lit 50, ⟨.type "function", none, .func ⟨"__init__", "BadPart.__init__", fA (inC (top 3) 0), .stmts (fB (inC (top 3) 0)), fS (inC (top 3) 0), 3, [("__class__", 38)], .none, .none, .none, .str "readersapart.errors" 194, none, .ref 49, .ref 43, 0⟩, [].toArray⟩) ::
  (nat_lit 51, ⟨.type "tuple", none, .seq [.str "part" 235].toArray 0, [].toArray⟩) ::
  (nat_lit 52, ⟨.type "dict", none, .dict [e P "__module__" 221 (.str "readersapart.errors" 194), e P "__firstlineno__" 225 (.int 7 224), e P "__init__" 234 (.ref 50), e P "__static_attributes__" 236 (.ref 51), e P "__doc__" 238 (.none)].toArray 3, [].toArray⟩) ::
  (nat_lit 53, ⟨.type "type", none, .cls ⟨"BadPart", [.ref 31], [.ref 53, .ref 31, .type "ValueError", .type "Exception", .type "BaseException", .type "object"], 52, "BadPart", true, [], [], false, none, false⟩, [some (.ref 35), none, some (.str "BadPart" 214), some (.str "BadPart" 222), some (.builtin "ValueError.__new__"), some (.bool true)].toArray⟩) ::
  (nat_lit 56, ⟨.type "tuple", none, .seq [.ref 31].toArray 0, [].toArray⟩) ::
  (nat_lit 63, ⟨.type "tuple", none, .seq [].toArray 0, [].toArray⟩) ::
  (nat_lit 64, ⟨.type "dict", none, .dict [e P "__module__" 248 (.str "readersapart.errors" 194), e P "__firstlineno__" 252 (.int 12 251), e P "__static_attributes__" 253 (.ref 63), e P "__doc__" 254 (.none)].toArray 2, [].toArray⟩) ::
  (nat_lit 65, ⟨.type "type", none, .cls ⟨"BadReader", [.ref 31], [.ref 65, .ref 31, .type "ValueError", .type "Exception", .type "BaseException", .type "object"], 64, "BadReader", true, [], [], false, none, false⟩, [some (.ref 56), none, some (.str "BadReader" 241), some (.str "BadReader" 249), some (.builtin "ValueError.__new__"), some (.bool true)].toArray⟩) ::
  (nat_lit 68, ⟨.type "tuple", none, .seq [.ref 31].toArray 0, [].toArray⟩) ::
  (nat_lit 71, ⟨.type "cell", none, .cell (some (.ref 86)), [].toArray⟩) ::
  (nat_lit 76, ⟨.type "tuple", none, .seq [.ref 71].toArray 0, [].toArray⟩) ::
  (nat_lit 77, ⟨.type "tuple", none, .seq [.str "__class__" 272].toArray 0, [].toArray⟩) ::
  (nat_lit 79, ⟨.type "tuple", none, .seq [.str "self" 273, .str "index" 274].toArray 0, [].toArray⟩) ::
  (nat_lit 80, ⟨.type "tuple", none, .seq [].toArray 0, [].toArray⟩) ::
  (nat_lit 82, ⟨.type "code", none, .fields [.str "__init__" 269, .str "BadReaders.__init__" 270, .str "/claim/cut.py" 271, .int 16 0, .int 2 0, .int 0 0, .int 0 0, .int 3 0, .ref 77, .bool true, .int 181 0, .ref 78, .none, .ref 79, .ref 80, .ref 81, .int 275 0, .int 16 0, .str "/claim/cut.py" 276].toArray, [].toArray⟩) ::
  (nat_lit 83, ⟨.type "function", none, .func ⟨"__init__", "BadReaders.__init__", fA (inC (top 5) 0), .stmts (fB (inC (top 5) 0)), fS (inC (top 5) 0), 3, [("__class__", 71)], .none, .none, .none, .str "readersapart.errors" 194, none, .ref 82, .ref 76, 0⟩, [].toArray⟩) ::
  (nat_lit 84, ⟨.type "tuple", none, .seq [.str "index" 278].toArray 0, [].toArray⟩) ::
  (nat_lit 85, ⟨.type "dict", none, .dict [e P "__module__" 264 (.str "readersapart.errors" 194), e P "__firstlineno__" 268 (.int 14 267), e P "__init__" 277 (.ref 83), e P "__static_attributes__" 279 (.ref 84), e P "__doc__" 281 (.none)].toArray 3, [].toArray⟩) ::
  (nat_lit 86, ⟨.type "type", none, .cls ⟨"BadReaders", [.ref 31], [.ref 86, .ref 31, .type "ValueError", .type "Exception", .type "BaseException", .type "object"], 85, "BadReaders", true, [], [], false, none, false⟩, [some (.ref 68), none, some (.str "BadReaders" 257), some (.str "BadReaders" 265), some (.builtin "ValueError.__new__"), some (.bool true)].toArray⟩) ::
  (nat_lit 89, ⟨.type "tuple", none, .seq [.ref 31].toArray 0, [].toArray⟩) ::
  (nat_lit 96, ⟨.type "tuple", none, .seq [].toArray 0, [].toArray⟩) ::
  (nat_lit 97, ⟨.type "dict", none, .dict [e P "__module__" 291 (.str "readersapart.errors" 194), e P "__firstlineno__" 295 (.int 19 294), e P "__static_attributes__" 296 (.ref 96), e P "__doc__" 297 (.none)].toArray 2, [].toArray⟩) ::
  (nat_lit 98, ⟨.type "type", none, .cls ⟨"BadText", [.ref 31], [.ref 98, .ref 31, .type "ValueError", .type "Exception", .type "BaseException", .type "object"], 97, "BadText", true, [], [], false, none, false⟩, [some (.ref 89), none, some (.str "BadText" 284), some (.str "BadText" 292), some (.builtin "ValueError.__new__"), some (.bool true)].toArray⟩) ::
  (nat_lit 101, ⟨.type "tuple", none, .seq [.ref 31].toArray 0, [].toArray⟩) ::
  (nat_lit 104, ⟨.type "cell", none, .cell (some (.ref 119)), [].toArray⟩) ::
  (nat_lit 109, ⟨.type "tuple", none, .seq [.ref 104].toArray 0, [].toArray⟩) ::
  (nat_lit 110, ⟨.type "tuple", none, .seq [.str "__class__" 315].toArray 0, [].toArray⟩) ::
  (nat_lit 112, ⟨.type "tuple", none, .seq [.str "self" 316, .str "index" 317].toArray 0, [].toArray⟩) ::
  (nat_lit 113, ⟨.type "tuple", none, .seq [].toArray 0, [].toArray⟩) ::
  (nat_lit 115, ⟨.type "code", none, .fields [.str "__init__" 312, .str "BadTexts.__init__" 313, .str "/claim/cut.py" 314, .int 23 0, .int 2 0, .int 0 0, .int 0 0, .int 3 0, .ref 110, .bool true, .int 181 0, .ref 111, .none, .ref 112, .ref 113, .ref 114, .int 318 0, .int 23 0, .str "/claim/cut.py" 319].toArray, [].toArray⟩) ::
  (nat_lit 116, ⟨.type "function", none, .func ⟨"__init__", "BadTexts.__init__", fA (inC (top 7) 0), .stmts (fB (inC (top 7) 0)), fS (inC (top 7) 0), 3, [("__class__", 104)], .none, .none, .none, .str "readersapart.errors" 194, none, .ref 115, .ref 109, 0⟩, [].toArray⟩) ::
  (nat_lit 117, ⟨.type "tuple", none, .seq [.str "index" 321].toArray 0, [].toArray⟩) ::
  (nat_lit 118, ⟨.type "dict", none, .dict [e P "__module__" 307 (.str "readersapart.errors" 194), e P "__firstlineno__" 311 (.int 21 310), e P "__init__" 320 (.ref 116), e P "__static_attributes__" 322 (.ref 117), e P "__doc__" 324 (.none)].toArray 3, [].toArray⟩) ::
  (nat_lit 119, ⟨.type "type", none, .cls ⟨"BadTexts", [.ref 31], [.ref 119, .ref 31, .type "ValueError", .type "Exception", .type "BaseException", .type "object"], 118, "BadTexts", true, [], [], false, none, false⟩, [some (.ref 101), none, some (.str "BadTexts" 300), some (.str "BadTexts" 308), some (.builtin "ValueError.__new__"), some (.bool true)].toArray⟩) ::
  (nat_lit 122, ⟨.type "tuple", none, .seq [.ref 31].toArray 0, [].toArray⟩) ::
  (nat_lit 125, ⟨.type "cell", none, .cell (some (.ref 140)), [].toArray⟩) ::
  (nat_lit 130, ⟨.type "tuple", none, .seq [.ref 125].toArray 0, [].toArray⟩) ::
  (nat_lit 131, ⟨.type "tuple", none, .seq [.str "__class__" 342].toArray 0, [].toArray⟩) ::
  (nat_lit 133, ⟨.type "tuple", none, .seq [.str "self" 343, .str "at" 344].toArray 0, [].toArray⟩) ::
  (nat_lit 134, ⟨.type "tuple", none, .seq [].toArray 0, [].toArray⟩) ::
  (nat_lit 136, ⟨.type "code", none, .fields [.str "__init__" 339, .str "NotTaken.__init__" 340, .str "/claim/cut.py" 341, .int 28 0, .int 2 0, .int 0 0, .int 0 0, .int 3 0, .ref 131, .bool true, .int 181 0, .ref 132, .none, .ref 133, .ref 134, .ref 135, .int 345 0, .int 28 0, .str "/claim/cut.py" 346].toArray, [].toArray⟩) ::
  (nat_lit 137, ⟨.type "function", none, .func ⟨"__init__", "NotTaken.__init__", fA (inC (top 8) 0), .stmts (fB (inC (top 8) 0)), fS (inC (top 8) 0), 3, [("__class__", 125)], .none, .none, .none, .str "readersapart.errors" 194, none, .ref 136, .ref 130, 0⟩, [].toArray⟩) ::
  (nat_lit 138, ⟨.type "tuple", none, .seq [.str "at" 348].toArray 0, [].toArray⟩) ::
  (nat_lit 139, ⟨.type "dict", none, .dict [e P "__module__" 334 (.str "readersapart.errors" 194), e P "__firstlineno__" 338 (.int 26 337), e P "__init__" 347 (.ref 137), e P "__static_attributes__" 349 (.ref 138), e P "__doc__" 351 (.none)].toArray 3, [].toArray⟩) ::
  (nat_lit 140, ⟨.type "type", none, .cls ⟨"NotTaken", [.ref 31], [.ref 140, .ref 31, .type "ValueError", .type "Exception", .type "BaseException", .type "object"], 139, "NotTaken", true, [], [], false, none, false⟩, [some (.ref 122), none, some (.str "NotTaken" 327), some (.str "NotTaken" 335), some (.builtin "ValueError.__new__"), some (.bool true)].toArray⟩) ::
  (nat_lit 143, ⟨.type "tuple", none, .seq [.ref 31].toArray 0, [].toArray⟩) ::
  (nat_lit 150, ⟨.type "tuple", none, .seq [].toArray 0, [].toArray⟩) ::
  (nat_lit 151, ⟨.type "dict", none, .dict [e P "__module__" 361 (.str "readersapart.errors" 194), e P "__firstlineno__" 365 (.int 31 364), e P "__static_attributes__" 366 (.ref 150), e P "__doc__" 367 (.none)].toArray 2, [].toArray⟩) ::
  (nat_lit 152, ⟨.type "type", none, .cls ⟨"BadNumber", [.ref 31], [.ref 152, .ref 31, .type "ValueError", .type "Exception", .type "BaseException", .type "object"], 151, "BadNumber", true, [], [], false, none, false⟩, [some (.ref 143), none, some (.str "BadNumber" 354), some (.str "BadNumber" 362), some (.builtin "ValueError.__new__"), some (.bool true)].toArray⟩) ::
  (nat_lit 155, ⟨.type "tuple", none, .seq [.ref 31].toArray 0, [].toArray⟩) ::
  (nat_lit 162, ⟨.type "tuple", none, .seq [].toArray 0, [].toArray⟩) ::
  (nat_lit 163, ⟨.type "dict", none, .dict [e P "__module__" 377 (.str "readersapart.errors" 194), e P "__firstlineno__" 381 (.int 33 380), e P "__static_attributes__" 382 (.ref 162), e P "__doc__" 383 (.none)].toArray 2, [].toArray⟩) ::
  (nat_lit 164, ⟨.type "type", none, .cls ⟨"BadLength", [.ref 31], [.ref 164, .ref 31, .type "ValueError", .type "Exception", .type "BaseException", .type "object"], 163, "BadLength", true, [], [], false, none, false⟩, [some (.ref 155), none, some (.str "BadLength" 370), some (.str "BadLength" 378), some (.builtin "ValueError.__new__"), some (.bool true)].toArray⟩) ::
  (nat_lit 167, ⟨.type "tuple", none, .seq [.str "." 389, .str "," 390, .str "" 391].toArray 0, [].toArray⟩) ::
  (nat_lit 168, ⟨.type "tuple", none, .seq [.str "point" 388, .ref 167].toArray 0, [].toArray⟩) ::
  (nat_lit 169, ⟨.type "tuple", none, .seq [.str "." 393, .str "," 394, .str "'" 395, .str " " 396, .str "" 397].toArray 0, [].toArray⟩) ::
  (nat_lit 170, ⟨.type "tuple", none, .seq [.str "comma" 392, .ref 169].toArray 0, [].toArray⟩) ::
  (nat_lit 171, ⟨.type "tuple", none, .seq [.int 3 399, .int 2 400].toArray 0, [].toArray⟩) ::
  (nat_lit 172, ⟨.type "tuple", none, .seq [.str "rest" 398, .ref 171].toArray 0, [].toArray⟩) ::
  (nat_lit 173, ⟨.type "tuple", none, .seq [.bool false, .bool true].toArray 0, [].toArray⟩) ::
  (nat_lit 174, ⟨.type "tuple", none, .seq [.str "must" 401, .ref 173].toArray 0, [].toArray⟩) ::
  (nat_lit 175, ⟨.type "tuple", none, .seq [.str "none" 403, .str "ahead" 404, .str "behind" 405].toArray 0, [].toArray⟩) ::
  (nat_lit 176, ⟨.type "tuple", none, .seq [.str "sign" 402, .ref 175].toArray 0, [].toArray⟩) ::
  (nat_lit 177, ⟨.type "tuple", none, .seq [.bool false, .bool true].toArray 0, [].toArray⟩) ::
  (nat_lit 178, ⟨.type "tuple", none, .seq [.str "zeros" 406, .ref 177].toArray 0, [].toArray⟩) ::
  (nat_lit 179, ⟨.type "tuple", none, .seq [.bool false, .bool true].toArray 0, [].toArray⟩) ::
  (nat_lit 180, ⟨.type "tuple", none, .seq [.str "blanks" 407, .ref 179].toArray 0, [].toArray⟩) ::
  (nat_lit 181, ⟨.type "tuple", none, .seq [.bool false, .bool true].toArray 0, [].toArray⟩) ::
  (nat_lit 182, ⟨.type "tuple", none, .seq [.str "exponent" 408, .ref 181].toArray 0, [].toArray⟩) ::
  (nat_lit 183, ⟨.type "tuple", none, .seq [.ref 168, .ref 170, .ref 172, .ref 174, .ref 176, .ref 178, .ref 180, .ref 182].toArray 0, [].toArray⟩) ::
  (nat_lit 191, ⟨.type "tuple", none, .seq [].toArray 0, [].toArray⟩) ::
  (nat_lit 193, ⟨.type "tuple", none, .seq [.str "self" 427, .str "point" 428, .str "comma" 429, .str "rest" 430, .str "must" 431, .str "sign" 432, .str "zeros" 433, .str "blanks" 434, .str "exponent" 435, .str "values" 436, .str "wrong" 437].toArray 0, [].toArray⟩) ::
  (nat_lit 194, ⟨.type "tuple", none, .seq [].toArray 0, [].toArray⟩) ::
  (nat_lit 196, ⟨.type "code", none, .fields [.str "__init__" 424, .str "Reader.__init__" 425, .str "/claim/cut.py" 426, .int 40 0, .int 9 0, .int 0 0, .int 0 0, .int 3 0, .ref 191, .bool true, .int 181 0, .ref 192, .none, .ref 193, .ref 194, .ref 195, .int 438 0, .int 40 0, .str "/claim/cut.py" 439].toArray, [].toArray⟩) ::
  (nat_lit 197, ⟨.type "function", none, .func ⟨"__init__", "Reader.__init__", fA (inC (top 14) 0), .stmts (fB (inC (top 14) 0)), fS (inC (top 14) 0), 3, [], .none, .none, .none, .str "readersapart.readers" 386, none, .ref 196, .none, 0⟩, [].toArray⟩) ::
  (nat_lit 198, ⟨.type "tuple", none, .seq [].toArray 0, [].toArray⟩) ::
  (nat_lit 200, ⟨.type "tuple", none, .seq [.str "self" 444, .str "other" 445].toArray 0, [].toArray⟩) ::
  (nat_lit 201, ⟨.type "tuple", none, .seq [].toArray 0, [].toArray⟩) ::
  (nat_lit 203, ⟨.type "code", none, .fields [.str "__eq__" 441, .str "Reader.__eq__" 442, .str "/claim/cut.py" 443, .int 47 0, .int 2 0, .int 0 0, .int 0 0, .int 3 0, .ref 198, .bool true, .int 181 0, .ref 199, .none, .ref 200, .ref 201, .ref 202, .int 446 0, .int 47 0, .str "/claim/cut.py" 447].toArray, [].toArray⟩) ::
  (nat_lit 204, ⟨.type "function", none, .func ⟨"__eq__", "Reader.__eq__", fA (inC (top 14) 1), .stmts (fB (inC (top 14) 1)), fS (inC (top 14) 1), 3, [], .none, .none, .none, .str "readersapart.readers" 386, none, .ref 203, .none, 0⟩, [].toArray⟩) ::
  (nat_lit 205, ⟨.type "tuple", none, .seq [].toArray 0, [].toArray⟩) ::
  (nat_lit 207, ⟨.type "tuple", none, .seq [.str "self" 452].toArray 0, [].toArray⟩) ::
  (nat_lit 208, ⟨.type "tuple", none, .seq [].toArray 0, [].toArray⟩) ::
  (nat_lit 210, ⟨.type "code", none, .fields [.str "point" 449, .str "Reader.point" 450, .str "/claim/cut.py" 451, .int 50 0, .int 1 0, .int 0 0, .int 0 0, .int 3 0, .ref 205, .bool true, .int 181 0, .ref 206, .none, .ref 207, .ref 208, .ref 209, .int 453 0, .int 50 0, .str "/claim/cut.py" 454].toArray, [].toArray⟩) ::
  (nat_lit 211, ⟨.type "function", none, .func ⟨"point", "Reader.point", fA (inC (top 14) 2), .stmts (fB (inC (top 14) 2)), fS (inC (top 14) 2), 3, [], .none, .none, .none, .str "readersapart.readers" 386, none, .ref 210, .none, 0⟩, [].toArray⟩) ::
  (nat_lit 212, ⟨.type "property", none, .fields [.ref 211, .none, .none, .none, .str "point" 456, .bool false].toArray, [].toArray⟩) ::
  (nat_lit 213, ⟨.type "tuple", none, .seq [].toArray 0, [].toArray⟩) ::
  (nat_lit 215, ⟨.type "tuple", none, .seq [.str "self" 460].toArray 0, [].toArray⟩) ::
  (nat_lit 216, ⟨.type "tuple", none, .seq [].toArray 0, [].toArray⟩) ::
  (nat_lit 218, ⟨.type "code", none, .fields [.str "comma" 457, .str "Reader.comma" 458, .str "/claim/cut.py" 459, .int 54 0, .int 1 0, .int 0 0, .int 0 0, .int 3 0, .ref 213, .bool true, .int 181 0, .ref 214, .none, .ref 215, .ref 216, .ref 217, .int 461 0, .int 54 0, .str "/claim/cut.py" 462].toArray, [].toArray⟩) ::
  (nat_lit 219, ⟨.type "function", none, .func ⟨"comma", "Reader.comma", fA (inC (top 14) 3), .stmts (fB (inC (top 14) 3)), fS (inC (top 14) 3), 3, [], .none, .none, .none, .str "readersapart.readers" 386, none, .ref 218, .none, 0⟩, [].toArray⟩) ::
  (nat_lit 220, ⟨.type "property", none, .fields [.ref 219, .none, .none, .none, .str "comma" 464, .bool false].toArray, [].toArray⟩) ::
  (nat_lit 221, ⟨.type "tuple", none, .seq [].toArray 0, [].toArray⟩) ::
  (nat_lit 223, ⟨.type "tuple", none, .seq [.str "self" 468].toArray 0, [].toArray⟩) ::
  (nat_lit 224, ⟨.type "tuple", none, .seq [].toArray 0, [].toArray⟩) ::
  (nat_lit 226, ⟨.type "code", none, .fields [.str "rest" 465, .str "Reader.rest" 466, .str "/claim/cut.py" 467, .int 58 0, .int 1 0, .int 0 0, .int 0 0, .int 3 0, .ref 221, .bool true, .int 181 0, .ref 222, .none, .ref 223, .ref 224, .ref 225, .int 469 0, .int 58 0, .str "/claim/cut.py" 470].toArray, [].toArray⟩) ::
  (nat_lit 227, ⟨.type "function", none, .func ⟨"rest", "Reader.rest", fA (inC (top 14) 4), .stmts (fB (inC (top 14) 4)), fS (inC (top 14) 4), 3, [], .none, .none, .none, .str "readersapart.readers" 386, none, .ref 226, .none, 0⟩, [].toArray⟩) ::
  (nat_lit 228, ⟨.type "property", none, .fields [.ref 227, .none, .none, .none, .str "rest" 472, .bool false].toArray, [].toArray⟩) ::
  (nat_lit 229, ⟨.type "tuple", none, .seq [].toArray 0, [].toArray⟩) ::
  (nat_lit 231, ⟨.type "tuple", none, .seq [.str "self" 476].toArray 0, [].toArray⟩) ::
  (nat_lit 232, ⟨.type "tuple", none, .seq [].toArray 0, [].toArray⟩) ::
  (nat_lit 234, ⟨.type "code", none, .fields [.str "must" 473, .str "Reader.must" 474, .str "/claim/cut.py" 475, .int 62 0, .int 1 0, .int 0 0, .int 0 0, .int 3 0, .ref 229, .bool true, .int 181 0, .ref 230, .none, .ref 231, .ref 232, .ref 233, .int 477 0, .int 62 0, .str "/claim/cut.py" 478].toArray, [].toArray⟩) ::
  (nat_lit 235, ⟨.type "function", none, .func ⟨"must", "Reader.must", fA (inC (top 14) 5), .stmts (fB (inC (top 14) 5)), fS (inC (top 14) 5), 3, [], .none, .none, .none, .str "readersapart.readers" 386, none, .ref 234, .none, 0⟩, [].toArray⟩) ::
  (nat_lit 236, ⟨.type "property", none, .fields [.ref 235, .none, .none, .none, .str "must" 480, .bool false].toArray, [].toArray⟩) ::
  (nat_lit 237, ⟨.type "tuple", none, .seq [].toArray 0, [].toArray⟩) ::
  (nat_lit 239, ⟨.type "tuple", none, .seq [.str "self" 484].toArray 0, [].toArray⟩) ::
  (nat_lit 240, ⟨.type "tuple", none, .seq [].toArray 0, [].toArray⟩) ::
  (nat_lit 242, ⟨.type "code", none, .fields [.str "sign" 481, .str "Reader.sign" 482, .str "/claim/cut.py" 483, .int 66 0, .int 1 0, .int 0 0, .int 0 0, .int 3 0, .ref 237, .bool true, .int 181 0, .ref 238, .none, .ref 239, .ref 240, .ref 241, .int 485 0, .int 66 0, .str "/claim/cut.py" 486].toArray, [].toArray⟩) ::
  (nat_lit 243, ⟨.type "function", none, .func ⟨"sign", "Reader.sign", fA (inC (top 14) 6), .stmts (fB (inC (top 14) 6)), fS (inC (top 14) 6), 3, [], .none, .none, .none, .str "readersapart.readers" 386, none, .ref 242, .none, 0⟩, [].toArray⟩) ::
  (nat_lit 244, ⟨.type "property", none, .fields [.ref 243, .none, .none, .none, .str "sign" 488, .bool false].toArray, [].toArray⟩) ::
  (nat_lit 245, ⟨.type "tuple", none, .seq [].toArray 0, [].toArray⟩) ::
  (nat_lit 247, ⟨.type "tuple", none, .seq [.str "self" 492].toArray 0, [].toArray⟩) ::
  (nat_lit 248, ⟨.type "tuple", none, .seq [].toArray 0, [].toArray⟩) ::
  (nat_lit 250, ⟨.type "code", none, .fields [.str "zeros" 489, .str "Reader.zeros" 490, .str "/claim/cut.py" 491, .int 70 0, .int 1 0, .int 0 0, .int 0 0, .int 3 0, .ref 245, .bool true, .int 181 0, .ref 246, .none, .ref 247, .ref 248, .ref 249, .int 493 0, .int 70 0, .str "/claim/cut.py" 494].toArray, [].toArray⟩) ::
  (nat_lit 251, ⟨.type "function", none, .func ⟨"zeros", "Reader.zeros", fA (inC (top 14) 7), .stmts (fB (inC (top 14) 7)), fS (inC (top 14) 7), 3, [], .none, .none, .none, .str "readersapart.readers" 386, none, .ref 250, .none, 0⟩, [].toArray⟩) ::
  (nat_lit 252, ⟨.type "property", none, .fields [.ref 251, .none, .none, .none, .str "zeros" 496, .bool false].toArray, [].toArray⟩) ::
  (nat_lit 253, ⟨.type "tuple", none, .seq [].toArray 0, [].toArray⟩) ::
  (nat_lit 255, ⟨.type "tuple", none, .seq [.str "self" 500].toArray 0, [].toArray⟩) ::
  (nat_lit 256, ⟨.type "tuple", none, .seq [].toArray 0, [].toArray⟩) ::
  (nat_lit 258, ⟨.type "code", none, .fields [.str "blanks" 497, .str "Reader.blanks" 498, .str "/claim/cut.py" 499, .int 74 0, .int 1 0, .int 0 0, .int 0 0, .int 3 0, .ref 253, .bool true, .int 181 0, .ref 254, .none, .ref 255, .ref 256, .ref 257, .int 501 0, .int 74 0, .str "/claim/cut.py" 502].toArray, [].toArray⟩) ::
  (nat_lit 259, ⟨.type "function", none, .func ⟨"blanks", "Reader.blanks", fA (inC (top 14) 8), .stmts (fB (inC (top 14) 8)), fS (inC (top 14) 8), 3, [], .none, .none, .none, .str "readersapart.readers" 386, none, .ref 258, .none, 0⟩, [].toArray⟩) ::
  (nat_lit 260, ⟨.type "property", none, .fields [.ref 259, .none, .none, .none, .str "blanks" 504, .bool false].toArray, [].toArray⟩) ::
  (nat_lit 261, ⟨.type "tuple", none, .seq [].toArray 0, [].toArray⟩) ::
  (nat_lit 263, ⟨.type "tuple", none, .seq [.str "self" 508].toArray 0, [].toArray⟩) ::
  (nat_lit 264, ⟨.type "tuple", none, .seq [].toArray 0, [].toArray⟩) ::
  (nat_lit 266, ⟨.type "code", none, .fields [.str "exponent" 505, .str "Reader.exponent" 506, .str "/claim/cut.py" 507, .int 78 0, .int 1 0, .int 0 0, .int 0 0, .int 3 0, .ref 261, .bool true, .int 181 0, .ref 262, .none, .ref 263, .ref 264, .ref 265, .int 509 0, .int 78 0, .str "/claim/cut.py" 510].toArray, [].toArray⟩) ::
  (nat_lit 267, ⟨.type "function", none, .func ⟨"exponent", "Reader.exponent", fA (inC (top 14) 9), .stmts (fB (inC (top 14) 9)), fS (inC (top 14) 9), 3, [], .none, .none, .none, .str "readersapart.readers" 386, none, .ref 266, .none, 0⟩, [].toArray⟩) ::
  (nat_lit 268, ⟨.type "property", none, .fields [.ref 267, .none, .none, .none, .str "exponent" 512, .bool false].toArray, [].toArray⟩) ::
  (nat_lit 269, ⟨.type "tuple", none, .seq [.str "_parts" 513].toArray 0, [].toArray⟩) ::
  (nat_lit 270, ⟨.type "dict", none, .dict [e P "__module__" 419 (.str "readersapart.readers" 386), e P "__firstlineno__" 423 (.int 38 422), e P "__init__" 440 (.ref 197), e P "__eq__" 448 (.ref 204), e P "point" 456 (.ref 212), e P "comma" 464 (.ref 220), e P "rest" 472 (.ref 228), e P "must" 480 (.ref 236), e P "sign" 488 (.ref 244), e P "zeros" 496 (.ref 252), e P "blanks" 504 (.ref 260), e P "exponent" 512 (.ref 268), e P "__static_attributes__" 514 (.ref 269), e P "__dict__" 516 (.ref 272), e P "__weakref__" 518 (.ref 273), e P "__doc__" 519 (.none), e P "__hash__" 520 (.none)].toArray 5, [].toArray⟩) ::
  (nat_lit 271, ⟨.type "type", none, .cls ⟨"Reader", [.type "object"], [.ref 271, .type "object"], 270, "Reader", true, [], [], false, none, false⟩, [none, none, some (.str "Reader" 412), some (.str "Reader" 420), some (.builtin "object.__new__"), some (.bool true)].toArray⟩) ::
  (nat_lit 272, ⟨.type "getset_descriptor", none, .fields [.str "__dict__" 515, .ref 271, .builtin "function.__dict__", .builtin "function.__dict__#set"].toArray, [].toArray⟩) ::
  (nat_lit 273, ⟨.type "getset_descriptor", none, .fields [.str "__weakref__" 517, .ref 271, .builtin "ExceptionGroup.__weakref__", .none].toArray, [].toArray⟩) ::
  (nat_lit 276, ⟨.type "tuple", none, .seq [].toArray 0, [].toArray⟩) ::
  (nat_lit 278, ⟨.type "tuple", none, .seq [.str "reader" 526].toArray 0, [].toArray⟩) ::
  (nat_lit 279, ⟨.type "tuple", none, .seq [].toArray 0, [].toArray⟩) ::
  (nat_lit 281, ⟨.type "code", none, .fields [.str "parts" 523, .str "parts" 524, .str "/claim/cut.py" 525, .int 81 0, .int 1 0, .int 0 0, .int 0 0, .int 3 0, .ref 276, .bool true, .int 181 0, .ref 277, .none, .ref 278, .ref 279, .ref 280, .int 527 0, .int 81 0, .str "/claim/cut.py" 528].toArray, [].toArray⟩) ::
  (nat_lit 282, ⟨.type "function", none, .func ⟨"parts", "parts", fA (top 15), .stmts (fB (top 15)), fS (top 15), 3, [], .none, .none, .none, .str "readersapart.readers" 386, none, .ref 281, .none, 0⟩, [].toArray⟩) ::
  (nat_lit 283, ⟨.type "tuple", none, .seq [].toArray 0, [].toArray⟩) ::
  (nat_lit 285, ⟨.type "tuple", none, .seq [.str "value" 533].toArray 0, [].toArray⟩) ::
  (nat_lit 286, ⟨.type "tuple", none, .seq [].toArray 0, [].toArray⟩) ::
  (nat_lit 288, ⟨.type "code", none, .fields [.str "check_reader" 530, .str "check_reader" 531, .str "/claim/cut.py" 532, .int 84 0, .int 1 0, .int 0 0, .int 0 0, .int 3 0, .ref 283, .bool true, .int 181 0, .ref 284, .none, .ref 285, .ref 286, .ref 287, .int 534 0, .int 84 0, .str "/claim/cut.py" 535].toArray, [].toArray⟩) ::
  (nat_lit 289, ⟨.type "function", none, .func ⟨"check_reader", "check_reader", fA (top 16), .stmts (fB (top 16)), fS (top 16), 3, [], .none, .none, .none, .str "readersapart.readers" 386, none, .ref 288, .none, 0⟩, [].toArray⟩) ::
  (nat_lit 290, ⟨.type "tuple", none, .seq [].toArray 0, [].toArray⟩) ::
  (nat_lit 292, ⟨.type "tuple", none, .seq [.str "values" 540, .str "index" 541, .str "value" 542].toArray 0, [].toArray⟩) ::
  (nat_lit 293, ⟨.type "tuple", none, .seq [].toArray 0, [].toArray⟩) ::
  (nat_lit 295, ⟨.type "code", none, .fields [.str "check_readers" 537, .str "check_readers" 538, .str "/claim/cut.py" 539, .int 87 0, .int 1 0, .int 0 0, .int 0 0, .int 3 0, .ref 290, .bool true, .int 181 0, .ref 291, .none, .ref 292, .ref 293, .ref 294, .int 543 0, .int 87 0, .str "/claim/cut.py" 544].toArray, [].toArray⟩) ::
  (nat_lit 296, ⟨.type "function", none, .func ⟨"check_readers", "check_readers", fA (top 17), .stmts (fB (top 17)), fS (top 17), 3, [], .none, .none, .none, .str "readersapart.readers" 386, none, .ref 295, .none, 0⟩, [].toArray⟩) ::
  (nat_lit 297, ⟨.type "tuple", none, .seq [].toArray 0, [].toArray⟩) ::
  (nat_lit 299, ⟨.type "tuple", none, .seq [.str "values" 549, .str "value" 550, .str "name" 551, .str "choices" 552].toArray 0, [].toArray⟩) ::
  (nat_lit 300, ⟨.type "tuple", none, .seq [].toArray 0, [].toArray⟩) ::
  (nat_lit 302, ⟨.type "code", none, .fields [.str "_first_wrong" 546, .str "_first_wrong" 547, .str "/claim/cut.py" 548, .int 93 0, .int 1 0, .int 0 0, .int 0 0, .int 3 0, .ref 297, .bool true, .int 181 0, .ref 298, .none, .ref 299, .ref 300, .ref 301, .int 553 0, .int 93 0, .str "/claim/cut.py" 554].toArray, [].toArray⟩) ::
  (nat_lit 303, ⟨.type "function", none, .func ⟨"_first_wrong", "_first_wrong", fA (top 18), .stmts (fB (top 18)), fS (top 18), 3, [], .none, .none, .none, .str "readersapart.readers" 386, none, .ref 302, .none, 0⟩, [].toArray⟩) ::
  (nat_lit 304, ⟨.type "tuple", none, .seq [].toArray 0, [].toArray⟩) ::
  (nat_lit 307, ⟨.type "code", none, .fields [.str "_is_among" 556, .str "_is_among" 557, .str "/claim/cut.py" 558, .int 98 0, .int 2 0, .int 0 0, .int 0 0, .int 3 0, .ref 304, .bool true, .int 181 0, .ref 305, .none, .none, .none, .ref 306, .int 559 0, .int 98 0, .str "/claim/cut.py" 560].toArray, [].toArray⟩) ::
  (nat_lit 308, ⟨.type "function", none, .func ⟨"_is_among", "_is_among", fA (top 19), .stmts (fB (top 19)), fS (top 19), 3, [], .none, .none, .none, .str "readersapart.readers" 386, none, .ref 307, .none, 0⟩, [].toArray⟩) ::
  (nat_lit 309, ⟨.type "tuple", none, .seq [].toArray 0, [].toArray⟩) ::
  (nat_lit 311, ⟨.type "tuple", none, .seq [.str "name" 565, .str "values" 566].toArray 0, [].toArray⟩) ::
  (nat_lit 312, ⟨.type "tuple", none, .seq [].toArray 0, [].toArray⟩) ::
  (nat_lit 314, ⟨.type "code", none, .fields [.str "_clashes" 562, .str "_clashes" 563, .str "/claim/cut.py" 564, .int 100 0, .int 2 0, .int 0 0, .int 0 0, .int 3 0, .ref 309, .bool true, .int 181 0, .ref 310, .none, .ref 311, .ref 312, .ref 313, .int 567 0, .int 100 0, .str "/claim/cut.py" 568].toArray, [].toArray⟩) ::
  (nat_lit 315, ⟨.type "function", none, .func ⟨"_clashes", "_clashes", fA (top 20), .stmts (fB (top 20)), fS (top 20), 3, [], .none, .none, .none, .str "readersapart.readers" 386, none, .ref 314, .none, 0⟩, [].toArray⟩) ::
  (nat_lit 316, ⟨.type "tuple", none, .seq [].toArray 0, [].toArray⟩) ::
  (nat_lit 318, ⟨.type "tuple", none, .seq [.str "value" 587].toArray 0, [].toArray⟩) ::
  (nat_lit 319, ⟨.type "tuple", none, .seq [].toArray 0, [].toArray⟩) ::
  (nat_lit 321, ⟨.type "code", none, .fields [.str "check_text" 584, .str "check_text" 585, .str "/claim/cut.py" 586, .int 110 0, .int 1 0, .int 0 0, .int 0 0, .int 3 0, .ref 316, .bool true, .int 181 0, .ref 317, .none, .ref 318, .ref 319, .ref 320, .int 588 0, .int 110 0, .str "/claim/cut.py" 589].toArray, [].toArray⟩) ::
  (nat_lit 322, ⟨.type "function", none, .func ⟨"check_text", "check_text", fA (top 27), .stmts (fB (top 27)), fS (top 27), 3, [], .none, .none, .none, .str "readersapart.checks" 570, none, .ref 321, .none, 0⟩, [].toArray⟩) ::
  (nat_lit 323, ⟨.type "tuple", none, .seq [].toArray 0, [].toArray⟩) ::
  (nat_lit 325, ⟨.type "tuple", none, .seq [.str "values" 594, .str "index" 595, .str "value" 596].toArray 0, [].toArray⟩) ::
  (nat_lit 326, ⟨.type "tuple", none, .seq [].toArray 0, [].toArray⟩) ::
  (nat_lit 328, ⟨.type "code", none, .fields [.str "check_texts" 591, .str "check_texts" 592, .str "/claim/cut.py" 593, .int 113 0, .int 1 0, .int 0 0, .int 0 0, .int 3 0, .ref 323, .bool true, .int 181 0, .ref 324, .none, .ref 325, .ref 326, .ref 327, .int 597 0, .int 113 0, .str "/claim/cut.py" 598].toArray, [].toArray⟩) ::
  (nat_lit 329, ⟨.type "function", none, .func ⟨"check_texts", "check_texts", fA (top 28), .stmts (fB (top 28)), fS (top 28), 3, [], .none, .none, .none, .str "readersapart.checks" 570, none, .ref 328, .none, 0⟩, [].toArray⟩) ::
  (nat_lit 330, ⟨.type "tuple", none, .seq [].toArray 0, [].toArray⟩) ::
  (nat_lit 332, ⟨.type "tuple", none, .seq [.str "value" 603].toArray 0, [].toArray⟩) ::
  (nat_lit 333, ⟨.type "tuple", none, .seq [].toArray 0, [].toArray⟩) ::
  (nat_lit 335, ⟨.type "code", none, .fields [.str "check_length" 600, .str "check_length" 601, .str "/claim/cut.py" 602, .int 119 0, .int 1 0, .int 0 0, .int 0 0, .int 3 0, .ref 330, .bool true, .int 181 0, .ref 331, .none, .ref 332, .ref 333, .ref 334, .int 604 0, .int 119 0, .str "/claim/cut.py" 605].toArray, [].toArray⟩) ::
  (nat_lit 336, ⟨.type "function", none, .func ⟨"check_length", "check_length", fA (top 29), .stmts (fB (top 29)), fS (top 29), 3, [], .none, .none, .none, .str "readersapart.checks" 570, none, .ref 335, .none, 0⟩, [].toArray⟩) ::
  (nat_lit 337, ⟨.type "tuple", none, .seq [].toArray 0, [].toArray⟩) ::
  (nat_lit 339, ⟨.type "tuple", none, .seq [.str "value" 610].toArray 0, [].toArray⟩) ::
  (nat_lit 340, ⟨.type "tuple", none, .seq [].toArray 0, [].toArray⟩) ::
  (nat_lit 342, ⟨.type "code", none, .fields [.str "check_number" 607, .str "check_number" 608, .str "/claim/cut.py" 609, .int 122 0, .int 1 0, .int 0 0, .int 0 0, .int 3 0, .ref 337, .bool true, .int 181 0, .ref 338, .none, .ref 339, .ref 340, .ref 341, .int 611 0, .int 122 0, .str "/claim/cut.py" 612].toArray, [].toArray⟩) ::
  (nat_lit 343, ⟨.type "function", none, .func ⟨"check_number", "check_number", fA (top 30), .stmts (fB (top 30)), fS (top 30), 3, [], .none, .none, .none, .str "readersapart.checks" 570, none, .ref 342, .none, 0⟩, [].toArray⟩) ::
  (nat_lit 344, ⟨.type "tuple", none, .seq [].toArray 0, [].toArray⟩) ::
  (nat_lit 346, ⟨.type "tuple", none, .seq [.str "value" 617, .str "n" 618, .str "k" 619].toArray 0, [].toArray⟩) ::
  (nat_lit 347, ⟨.type "tuple", none, .seq [].toArray 0, [].toArray⟩) ::
  (nat_lit 349, ⟨.type "code", none, .fields [.str "is_number" 614, .str "is_number" 615, .str "/claim/cut.py" 616, .int 125 0, .int 1 0, .int 0 0, .int 0 0, .int 3 0, .ref 344, .bool true, .int 181 0, .ref 345, .none, .ref 346, .ref 347, .ref 348, .int 620 0, .int 125 0, .str "/claim/cut.py" 621].toArray, [].toArray⟩) ::
  (nat_lit 350, ⟨.type "function", none, .func ⟨"is_number", "is_number", fA (top 31), .stmts (fB (top 31)), fS (top 31), 3, [], .none, .none, .none, .str "readersapart.checks" 570, none, .ref 349, .none, 0⟩, [].toArray⟩) ::
  (nat_lit 351, ⟨.type "tuple", none, .seq [].toArray 0, [].toArray⟩) ::
  (nat_lit 353, ⟨.type "tuple", none, .seq [.str "value" 626].toArray 0, [].toArray⟩) ::
  (nat_lit 354, ⟨.type "tuple", none, .seq [].toArray 0, [].toArray⟩) ::
  (nat_lit 356, ⟨.type "code", none, .fields [.str "is_plain_integer" 623, .str "is_plain_integer" 624, .str "/claim/cut.py" 625, .int 134 0, .int 1 0, .int 0 0, .int 0 0, .int 3 0, .ref 351, .bool true, .int 181 0, .ref 352, .none, .ref 353, .ref 354, .ref 355, .int 627 0, .int 134 0, .str "/claim/cut.py" 628].toArray, [].toArray⟩) ::
  (nat_lit 357, ⟨.type "function", none, .func ⟨"is_plain_integer", "is_plain_integer", fA (top 32), .stmts (fB (top 32)), fS (top 32), 3, [], .none, .none, .none, .str "readersapart.checks" 570, none, .ref 356, .none, 0⟩, [].toArray⟩) ::
  (nat_lit 358, ⟨.type "tuple", none, .seq [].toArray 0, [].toArray⟩) ::
  (nat_lit 360, ⟨.type "tuple", none, .seq [.str "value" 633].toArray 0, [].toArray⟩) ::
  (nat_lit 361, ⟨.type "tuple", none, .seq [].toArray 0, [].toArray⟩) ::
  (nat_lit 363, ⟨.type "code", none, .fields [.str "_is_text" 630, .str "_is_text" 631, .str "/claim/cut.py" 632, .int 136 0, .int 1 0, .int 0 0, .int 0 0, .int 3 0, .ref 358, .bool true, .int 181 0, .ref 359, .none, .ref 360, .ref 361, .ref 362, .int 634 0, .int 136 0, .str "/claim/cut.py" 635].toArray, [].toArray⟩) ::
  (nat_lit 364, ⟨.type "function", none, .func ⟨"_is_text", "_is_text", fA (top 33), .stmts (fB (top 33)), fS (top 33), 3, [], .none, .none, .none, .str "readersapart.checks" 570, none, .ref 363, .none, 0⟩, [].toArray⟩) ::
  (nat_lit 365, ⟨.type "tuple", none, .seq [.str "start" 641, .int 0 642].toArray 0, [].toArray⟩) ::
  (nat_lit 366, ⟨.type "tuple", none, .seq [.str "minus" 644, .int 0 645].toArray 0, [].toArray⟩) ::
  (nat_lit 367, ⟨.type "tuple", none, .seq [.str "nought" 647, .int 0 648].toArray 0, [].toArray⟩) ::
  (nat_lit 368, ⟨.type "tuple", none, .seq [.str "point" 650, .int 0 651].toArray 0, [].toArray⟩) ::
  (nat_lit 369, ⟨.type "tuple", none, .seq [.str "fraction" 653, .int 0 654].toArray 0, [].toArray⟩) ::
  (nat_lit 370, ⟨.type "tuple", none, .seq [.str "letter" 656, .int 0 657].toArray 0, [].toArray⟩) ::
  (nat_lit 371, ⟨.type "tuple", none, .seq [.str "less" 659, .int 0 660].toArray 0, [].toArray⟩) ::
  (nat_lit 372, ⟨.type "tuple", none, .seq [.str "turned" 662, .int 0 663].toArray 0, [].toArray⟩) ::
  (nat_lit 373, ⟨.type "tuple", none, .seq [.str "end" 665, .int 0 666].toArray 0, [].toArray⟩) ::
  (nat_lit 374, ⟨.type "tuple", none, .seq [.str "start" 670, .str "minus" 671, .str "point" 672, .str "letter" 673, .str "less" 674].toArray 0, [].toArray⟩) ::
  (nat_lit 375, ⟨.type "tuple", none, .seq [].toArray 0, [].toArray⟩) ::
  (nat_lit 377, ⟨.type "tuple", none, .seq [.str "reader" 679, .str "state" 680, .str "sign" 681].toArray 0, [].toArray⟩) ::
  (nat_lit 378, ⟨.type "tuple", none, .seq [].toArray 0, [].toArray⟩) ::
  (nat_lit 380, ⟨.type "code", none, .fields [.str "step" 676, .str "step" 677, .str "/claim/cut.py" 678, .int 151 0, .int 3 0, .int 0 0, .int 0 0, .int 3 0, .ref 375, .bool true, .int 181 0, .ref 376, .none, .ref 377, .ref 378, .ref 379, .int 682 0, .int 151 0, .str "/claim/cut.py" 683].toArray, [].toArray⟩) ::
  (nat_lit 381, ⟨.type "function", none, .func ⟨"step", "step", fA (top 47), .stmts (fB (top 47)), fS (top 47), 3, [], .none, .none, .none, .str "readersapart.machine" 637, none, .ref 380, .none, 0⟩, [].toArray⟩) ::
  (nat_lit 382, ⟨.type "tuple", none, .seq [].toArray 0, [].toArray⟩) ::
  (nat_lit 384, ⟨.type "tuple", none, .seq [.str "state" 688, .str "place" 689, .str "many" 690].toArray 0, [].toArray⟩) ::
  (nat_lit 385, ⟨.type "tuple", none, .seq [].toArray 0, [].toArray⟩) ::
  (nat_lit 387, ⟨.type "code", none, .fields [.str "lacking" 685, .str "lacking" 686, .str "/claim/cut.py" 687, .int 165 0, .int 1 0, .int 0 0, .int 0 0, .int 3 0, .ref 382, .bool true, .int 181 0, .ref 383, .none, .ref 384, .ref 385, .ref 386, .int 691 0, .int 165 0, .str "/claim/cut.py" 692].toArray, [].toArray⟩) ::
  (nat_lit 388, ⟨.type "function", none, .func ⟨"lacking", "lacking", fA (top 48), .stmts (fB (top 48)), fS (top 48), 3, [], .none, .none, .none, .str "readersapart.machine" 637, none, .ref 387, .none, 0⟩, [].toArray⟩) ::
  (nat_lit 389, ⟨.type "tuple", none, .seq [].toArray 0, [].toArray⟩) ::
  (nat_lit 391, ⟨.type "tuple", none, .seq [.str "reader" 697, .str "state" 698, .str "sign" 699, .str "place" 700, .str "many" 701, .str "lone" 702].toArray 0, [].toArray⟩) ::
  (nat_lit 392, ⟨.type "tuple", none, .seq [].toArray 0, [].toArray⟩) ::
  (nat_lit 394, ⟨.type "code", none, .fields [.str "_behind_figure" 694, .str "_behind_figure" 695, .str "/claim/cut.py" 696, .int 170 0, .int 3 0, .int 0 0, .int 0 0, .int 3 0, .ref 389, .bool true, .int 181 0, .ref 390, .none, .ref 391, .ref 392, .ref 393, .int 703 0, .int 170 0, .str "/claim/cut.py" 704].toArray, [].toArray⟩) ::
  (nat_lit 395, ⟨.type "function", none, .func ⟨"_behind_figure", "_behind_figure", fA (top 49), .stmts (fB (top 49)), fS (top 49), 3, [], .none, .none, .none, .str "readersapart.machine" 637, none, .ref 394, .none, 0⟩, [].toArray⟩) ::
  (nat_lit 396, ⟨.type "tuple", none, .seq [].toArray 0, [].toArray⟩) ::
  (nat_lit 398, ⟨.type "tuple", none, .seq [.str "reader" 709, .str "many" 710].toArray 0, [].toArray⟩) ::
  (nat_lit 399, ⟨.type "tuple", none, .seq [].toArray 0, [].toArray⟩) ::
  (nat_lit 401, ⟨.type "code", none, .fields [.str "_longer_plain" 706, .str "_longer_plain" 707, .str "/claim/cut.py" 708, .int 184 0, .int 2 0, .int 0 0, .int 0 0, .int 3 0, .ref 396, .bool true, .int 181 0, .ref 397, .none, .ref 398, .ref 399, .ref 400, .int 711 0, .int 184 0, .str "/claim/cut.py" 712].toArray, [].toArray⟩) ::
  (nat_lit 402, ⟨.type "function", none, .func ⟨"_longer_plain", "_longer_plain", fA (top 50), .stmts (fB (top 50)), fS (top 50), 3, [], .none, .none, .none, .str "readersapart.machine" 637, none, .ref 401, .none, 0⟩, [].toArray⟩) ::
  (nat_lit 403, ⟨.type "tuple", none, .seq [].toArray 0, [].toArray⟩) ::
  (nat_lit 405, ⟨.type "tuple", none, .seq [.str "reader" 717, .str "state" 718, .str "place" 719, .str "many" 720].toArray 0, [].toArray⟩) ::
  (nat_lit 406, ⟨.type "tuple", none, .seq [].toArray 0, [].toArray⟩) ::
  (nat_lit 408, ⟨.type "code", none, .fields [.str "_behind_comma" 714, .str "_behind_comma" 715, .str "/claim/cut.py" 716, .int 188 0, .int 2 0, .int 0 0, .int 0 0, .int 3 0, .ref 403, .bool true, .int 181 0, .ref 404, .none, .ref 405, .ref 406, .ref 407, .int 721 0, .int 188 0, .str "/claim/cut.py" 722].toArray, [].toArray⟩) ::
  (nat_lit 409, ⟨.type "function", none, .func ⟨"_behind_comma", "_behind_comma", fA (top 51), .stmts (fB (top 51)), fS (top 51), 3, [], .none, .none, .none, .str "readersapart.machine" 637, none, .ref 408, .none, 0⟩, [].toArray⟩) ::
  (nat_lit 410, ⟨.type "tuple", none, .seq [].toArray 0, [].toArray⟩) ::
  (nat_lit 412, ⟨.type "tuple", none, .seq [.str "reader" 727, .str "state" 728].toArray 0, [].toArray⟩) ::
  (nat_lit 413, ⟨.type "tuple", none, .seq [].toArray 0, [].toArray⟩) ::
  (nat_lit 415, ⟨.type "code", none, .fields [.str "_behind_minus" 724, .str "_behind_minus" 725, .str "/claim/cut.py" 726, .int 193 0, .int 2 0, .int 0 0, .int 0 0, .int 3 0, .ref 410, .bool true, .int 181 0, .ref 411, .none, .ref 412, .ref 413, .ref 414, .int 729 0, .int 193 0, .str "/claim/cut.py" 730].toArray, [].toArray⟩) ::
  (nat_lit 416, ⟨.type "function", none, .func ⟨"_behind_minus", "_behind_minus", fA (top 52), .stmts (fB (top 52)), fS (top 52), 3, [], .none, .none, .none, .str "readersapart.machine" 637, none, .ref 415, .none, 0⟩, [].toArray⟩) ::
  (nat_lit 417, ⟨.type "tuple", none, .seq [].toArray 0, [].toArray⟩) ::
  (nat_lit 419, ⟨.type "tuple", none, .seq [.str "reader" 735, .str "state" 736].toArray 0, [].toArray⟩) ::
  (nat_lit 420, ⟨.type "tuple", none, .seq [].toArray 0, [].toArray⟩) ::
  (nat_lit 422, ⟨.type "code", none, .fields [.str "_behind_letter" 732, .str "_behind_letter" 733, .str "/claim/cut.py" 734, .int 199 0, .int 2 0, .int 0 0, .int 0 0, .int 3 0, .ref 417, .bool true, .int 181 0, .ref 418, .none, .ref 419, .ref 420, .ref 421, .int 737 0, .int 199 0, .str "/claim/cut.py" 738].toArray, [].toArray⟩) ::
  (nat_lit 423, ⟨.type "function", none, .func ⟨"_behind_letter", "_behind_letter", fA (top 53), .stmts (fB (top 53)), fS (top 53), 3, [], .none, .none, .none, .str "readersapart.machine" 637, none, .ref 422, .none, 0⟩, [].toArray⟩) ::
  (nat_lit 424, ⟨.type "tuple", none, .seq [].toArray 0, [].toArray⟩) ::
  (nat_lit 426, ⟨.type "tuple", none, .seq [.str "state" 743].toArray 0, [].toArray⟩) ::
  (nat_lit 427, ⟨.type "tuple", none, .seq [].toArray 0, [].toArray⟩) ::
  (nat_lit 429, ⟨.type "code", none, .fields [.str "_behind_blank" 740, .str "_behind_blank" 741, .str "/claim/cut.py" 742, .int 201 0, .int 1 0, .int 0 0, .int 0 0, .int 3 0, .ref 424, .bool true, .int 181 0, .ref 425, .none, .ref 426, .ref 427, .ref 428, .int 744 0, .int 201 0, .str "/claim/cut.py" 745].toArray, [].toArray⟩) ::
  (nat_lit 430, ⟨.type "function", none, .func ⟨"_behind_blank", "_behind_blank", fA (top 54), .stmts (fB (top 54)), fS (top 54), 3, [], .none, .none, .none, .str "readersapart.machine" 637, none, .ref 429, .none, 0⟩, [].toArray⟩) ::
  (nat_lit 431, ⟨.type "tuple", none, .seq [].toArray 0, [].toArray⟩) ::
  (nat_lit 433, ⟨.type "tuple", none, .seq [.str "state" 750].toArray 0, [].toArray⟩) ::
  (nat_lit 434, ⟨.type "tuple", none, .seq [].toArray 0, [].toArray⟩) ::
  (nat_lit 436, ⟨.type "code", none, .fields [.str "_whole_ends" 747, .str "_whole_ends" 748, .str "/claim/cut.py" 749, .int 205 0, .int 1 0, .int 0 0, .int 0 0, .int 3 0, .ref 431, .bool true, .int 181 0, .ref 432, .none, .ref 433, .ref 434, .ref 435, .int 751 0, .int 205 0, .str "/claim/cut.py" 752].toArray, [].toArray⟩) ::
  (nat_lit 437, ⟨.type "function", none, .func ⟨"_whole_ends", "_whole_ends", fA (top 55), .stmts (fB (top 55)), fS (top 55), 3, [], .none, .none, .none, .str "readersapart.machine" 637, none, .ref 436, .none, 0⟩, [].toArray⟩) ::
  (nat_lit 438, ⟨.type "tuple", none, .seq [].toArray 0, [].toArray⟩) ::
  (nat_lit 440, ⟨.type "tuple", none, .seq [.str "state" 757].toArray 0, [].toArray⟩) ::
  (nat_lit 441, ⟨.type "tuple", none, .seq [].toArray 0, [].toArray⟩) ::
  (nat_lit 443, ⟨.type "code", none, .fields [.str "_number_ends" 754, .str "_number_ends" 755, .str "/claim/cut.py" 756, .int 207 0, .int 1 0, .int 0 0, .int 0 0, .int 3 0, .ref 438, .bool true, .int 181 0, .ref 439, .none, .ref 440, .ref 441, .ref 442, .int 758 0, .int 207 0, .str "/claim/cut.py" 759].toArray, [].toArray⟩) ::
  (nat_lit 444, ⟨.type "function", none, .func ⟨"_number_ends", "_number_ends", fA (top 56), .stmts (fB (top 56)), fS (top 56), 3, [], .none, .none, .none, .str "readersapart.machine" 637, none, .ref 443, .none, 0⟩, [].toArray⟩) ::
  (nat_lit 445, ⟨.type "tuple", none, .seq [].toArray 0, [].toArray⟩) ::
  (nat_lit 447, ⟨.type "tuple", none, .seq [.str "reader" 766, .str "text" 767].toArray 0, [].toArray⟩) ::
  (nat_lit 448, ⟨.type "tuple", none, .seq [].toArray 0, [].toArray⟩) ::
  (nat_lit 450, ⟨.type "code", none, .fields [.str "takes" 763, .str "takes" 764, .str "/claim/cut.py" 765, .int 210 0, .int 2 0, .int 0 0, .int 0 0, .int 3 0, .ref 445, .bool true, .int 181 0, .ref 446, .none, .ref 447, .ref 448, .ref 449, .int 768 0, .int 210 0, .str "/claim/cut.py" 769].toArray, [].toArray⟩) ::
  (nat_lit 451, ⟨.type "function", none, .func ⟨"takes", "takes", fA (top 58), .stmts (fB (top 58)), fS (top 58), 3, [], .none, .none, .none, .str "readersapart.reading" 761, none, .ref 450, .none, 0⟩, [].toArray⟩) ::
  (nat_lit 452, ⟨.type "tuple", none, .seq [].toArray 0, [].toArray⟩) ::
  (nat_lit 454, ⟨.type "tuple", none, .seq [.str "reader" 774, .str "text" 775, .str "state" 776, .str "at" 777, .str "sign" 778].toArray 0, [].toArray⟩) ::
  (nat_lit 455, ⟨.type "tuple", none, .seq [].toArray 0, [].toArray⟩) ::
  (nat_lit 457, ⟨.type "code", none, .fields [.str "first_stop" 771, .str "first_stop" 772, .str "/claim/cut.py" 773, .int 212 0, .int 2 0, .int 0 0, .int 0 0, .int 3 0, .ref 452, .bool true, .int 181 0, .ref 453, .none, .ref 454, .ref 455, .ref 456, .int 779 0, .int 212 0, .str "/claim/cut.py" 780].toArray, [].toArray⟩) ::
  (nat_lit 458, ⟨.type "function", none, .func ⟨"first_stop", "first_stop", fA (top 59), .stmts (fB (top 59)), fS (top 59), 3, [], .none, .none, .none, .str "readersapart.reading" 761, none, .ref 457, .none, 0⟩, [].toArray⟩) ::
  (nat_lit 459, ⟨.type "tuple", none, .seq [].toArray 0, [].toArray⟩) ::
  (nat_lit 461, ⟨.type "tuple", none, .seq [.str "reader" 785, .str "text" 786, .str "at" 787].toArray 0, [].toArray⟩) ::
  (nat_lit 462, ⟨.type "tuple", none, .seq [].toArray 0, [].toArray⟩) ::
  (nat_lit 464, ⟨.type "code", none, .fields [.str "means" 782, .str "means" 783, .str "/claim/cut.py" 784, .int 221 0, .int 2 0, .int 0 0, .int 0 0, .int 3 0, .ref 459, .bool true, .int 181 0, .ref 460, .none, .ref 461, .ref 462, .ref 463, .int 788 0, .int 221 0, .str "/claim/cut.py" 789].toArray, [].toArray⟩) ::
  (nat_lit 465, ⟨.type "function", none, .func ⟨"means", "means", fA (top 60), .stmts (fB (top 60)), fS (top 60), 3, [], .none, .none, .none, .str "readersapart.reading" 761, none, .ref 464, .none, 0⟩, [].toArray⟩) ::
  (nat_lit 466, ⟨.type "tuple", none, .seq [].toArray 0, [].toArray⟩) ::
  (nat_lit 468, ⟨.type "tuple", none, .seq [.str "reader" 794, .str "text" 795].toArray 0, [].toArray⟩) ::
  (nat_lit 469, ⟨.type "tuple", none, .seq [].toArray 0, [].toArray⟩) ::
  (nat_lit 471, ⟨.type "code", none, .fields [.str "number_if_taken" 791, .str "number_if_taken" 792, .str "/claim/cut.py" 793, .int 226 0, .int 2 0, .int 0 0, .int 0 0, .int 3 0, .ref 466, .bool true, .int 181 0, .ref 467, .none, .ref 468, .ref 469, .ref 470, .int 796 0, .int 226 0, .str "/claim/cut.py" 797].toArray, [].toArray⟩) ::
  (nat_lit 472, ⟨.type "function", none, .func ⟨"number_if_taken", "number_if_taken", fA (top 61), .stmts (fB (top 61)), fS (top 61), 3, [], .none, .none, .none, .str "readersapart.reading" 761, none, .ref 471, .none, 0⟩, [].toArray⟩) ::
  (nat_lit 473, ⟨.type "tuple", none, .seq [].toArray 0, [].toArray⟩) ::
  (nat_lit 475, ⟨.type "tuple", none, .seq [.str "reader" 802, .str "text" 803, .str "body" 804, .str "front" 805, .str "_" 806, .str "power" 807, .str "whole" 808, .str "fraction" 809, .str "worth" 810].toArray 0, [].toArray⟩) ::
  (nat_lit 476, ⟨.type "tuple", none, .seq [].toArray 0, [].toArray⟩) ::
  (nat_lit 478, ⟨.type "code", none, .fields [.str "number_of" 799, .str "number_of" 800, .str "/claim/cut.py" 801, .int 228 0, .int 2 0, .int 0 0, .int 0 0, .int 3 0, .ref 473, .bool true, .int 181 0, .ref 474, .none, .ref 475, .ref 476, .ref 477, .int 811 0, .int 228 0, .str "/claim/cut.py" 812].toArray, [].toArray⟩) ::
  (nat_lit 479, ⟨.type "function", none, .func ⟨"number_of", "number_of", fA (top 62), .stmts (fB (top 62)), fS (top 62), 3, [], .none, .none, .none, .str "readersapart.reading" 761, none, .ref 478, .none, 0⟩, [].toArray⟩) ::
  (nat_lit 480, ⟨.type "tuple", none, .seq [].toArray 0, [].toArray⟩) ::
  (nat_lit 482, ⟨.type "tuple", none, .seq [.str "worth" 817, .str "power" 818].toArray 0, [].toArray⟩) ::
  (nat_lit 483, ⟨.type "tuple", none, .seq [].toArray 0, [].toArray⟩) ::
  (nat_lit 485, ⟨.type "code", none, .fields [.str "plain_number" 814, .str "plain_number" 815, .str "/claim/cut.py" 816, .int 236 0, .int 2 0, .int 0 0, .int 0 0, .int 3 0, .ref 480, .bool true, .int 181 0, .ref 481, .none, .ref 482, .ref 483, .ref 484, .int 819 0, .int 236 0, .str "/claim/cut.py" 820].toArray, [].toArray⟩) ::
  (nat_lit 486, ⟨.type "function", none, .func ⟨"plain_number", "plain_number", fA (top 63), .stmts (fB (top 63)), fS (top 63), 3, [], .none, .none, .none, .str "readersapart.reading" 761, none, .ref 485, .none, 0⟩, [].toArray⟩) ::
  (nat_lit 487, ⟨.type "tuple", none, .seq [].toArray 0, [].toArray⟩) ::
  (nat_lit 489, ⟨.type "tuple", none, .seq [.str "reader" 825, .str "text" 826, .str "state" 827, .str "sign" 828].toArray 0, [].toArray⟩) ::
  (nat_lit 490, ⟨.type "tuple", none, .seq [].toArray 0, [].toArray⟩) ::
  (nat_lit 492, ⟨.type "code", none, .fields [.str "_goes_through" 822, .str "_goes_through" 823, .str "/claim/cut.py" 824, .int 243 0, .int 2 0, .int 0 0, .int 0 0, .int 3 0, .ref 487, .bool true, .int 181 0, .ref 488, .none, .ref 489, .ref 490, .ref 491, .int 829 0, .int 243 0, .str "/claim/cut.py" 830].toArray, [].toArray⟩) ::
  (nat_lit 493, ⟨.type "function", none, .func ⟨"_goes_through", "_goes_through", fA (top 64), .stmts (fB (top 64)), fS (top 64), 3, [], .none, .none, .none, .str "readersapart.reading" 761, none, .ref 492, .none, 0⟩, [].toArray⟩) ::
  (nat_lit 494, ⟨.type "tuple", none, .seq [].toArray 0, [].toArray⟩) ::
  (nat_lit 496, ⟨.type "tuple", none, .seq [.str "reader" 835, .str "front" 836, .str "whole" 837, .str "_" 838, .str "fraction" 839].toArray 0, [].toArray⟩) ::
  (nat_lit 497, ⟨.type "tuple", none, .seq [].toArray 0, [].toArray⟩) ::
  (nat_lit 499, ⟨.type "code", none, .fields [.str "_around_point" 832, .str "_around_point" 833, .str "/claim/cut.py" 834, .int 250 0, .int 2 0, .int 0 0, .int 0 0, .int 3 0, .ref 494, .bool true, .int 181 0, .ref 495, .none, .ref 496, .ref 497, .ref 498, .int 840 0, .int 250 0, .str "/claim/cut.py" 841].toArray, [].toArray⟩) ::
  (nat_lit 500, ⟨.type "function", none, .func ⟨"_around_point", "_around_point", fA (top 65), .stmts (fB (top 65)), fS (top 65), 3, [], .none, .none, .none, .str "readersapart.reading" 761, none, .ref 499, .none, 0⟩, [].toArray⟩) ::
  (nat_lit 501, ⟨.type "tuple", none, .seq [.str " " 845, .int 1 846].toArray 0, [].toArray⟩) ::
  (nat_lit 502, ⟨.type "tuple", none, .seq [.str "'" 847, .int 1 848].toArray 0, [].toArray⟩) ::
  (nat_lit 503, ⟨.type "tuple", none, .seq [.str "," 849, .int 1 850].toArray 0, [].toArray⟩) ::
  (nat_lit 504, ⟨.type "tuple", none, .seq [.str "-" 851, .int 1 852].toArray 0, [].toArray⟩) ::
  (nat_lit 505, ⟨.type "tuple", none, .seq [.str "." 853, .int 1 854].toArray 0, [].toArray⟩) ::
  (nat_lit 506, ⟨.type "tuple", none, .seq [.str "0" 855, .int 1 856].toArray 0, [].toArray⟩) ::
  (nat_lit 507, ⟨.type "tuple", none, .seq [.str "1" 857, .int 9 858].toArray 0, [].toArray⟩) ::
  (nat_lit 508, ⟨.type "tuple", none, .seq [.str "e" 859, .int 1 860].toArray 0, [].toArray⟩) ::
  (nat_lit 509, ⟨.type "tuple", none, .seq [.ref 501, .ref 502, .ref 503, .ref 504, .ref 505, .ref 506, .ref 507, .ref 508].toArray 0, [].toArray⟩) ::
  (nat_lit 510, ⟨.type "tuple", none, .seq [].toArray 0, [].toArray⟩) ::
  (nat_lit 512, ⟨.type "tuple", none, .seq [.str "readers" 865, .str "may_go_on" 866, .str "is_wanted" 867, .str "text" 868, .str "stands" 869].toArray 0, [].toArray⟩) ::
  (nat_lit 513, ⟨.type "tuple", none, .seq [].toArray 0, [].toArray⟩) ::
  (nat_lit 515, ⟨.type "code", none, .fields [.str "least_text" 862, .str "least_text" 863, .str "/claim/cut.py" 864, .int 257 0, .int 3 0, .int 0 0, .int 0 0, .int 3 0, .ref 510, .bool true, .int 181 0, .ref 511, .none, .ref 512, .ref 513, .ref 514, .int 870 0, .int 257 0, .str "/claim/cut.py" 871].toArray, [].toArray⟩) ::
  (nat_lit 516, ⟨.type "function", none, .func ⟨"least_text", "least_text", fA (top 68), .stmts (fB (top 68)), fS (top 68), 3, [], .none, .none, .none, .str "readersapart.walks" 843, none, .ref 515, .none, 0⟩, [].toArray⟩) ::
  (nat_lit 517, ⟨.type "tuple", none, .seq [].toArray 0, [].toArray⟩) ::
  (nat_lit 519, ⟨.type "tuple", none, .seq [.str "readers" 876, .str "may_go_on" 877, .str "start" 878, .str "seen" 879, .str "row" 880, .str "longer" 881, .str "text" 882, .str "stands" 883, .str "sign" 884, .str "stands_behind" 885, .str "_" 886].toArray 0, [].toArray⟩) ::
  (nat_lit 520, ⟨.type "tuple", none, .seq [].toArray 0, [].toArray⟩) ::
  (nat_lit 522, ⟨.type "code", none, .fields [.str "first_arrivals" 873, .str "first_arrivals" 874, .str "/claim/cut.py" 875, .int 262 0, .int 2 0, .int 0 0, .int 0 0, .int 35 0, .ref 517, .bool true, .int 181 0, .ref 518, .none, .ref 519, .ref 520, .ref 521, .int 887 0, .int 262 0, .str "/claim/cut.py" 888].toArray, [].toArray⟩) ::
  (nat_lit 523, ⟨.type "function", none, .func ⟨"first_arrivals", "first_arrivals", fA (top 69), .stmts (fB (top 69)), fS (top 69), 3, [], .none, .none, .none, .str "readersapart.walks" 843, none, .ref 522, .none, 0⟩, [].toArray⟩) ::
  (nat_lit 524, ⟨.type "tuple", none, .seq [].toArray 0, [].toArray⟩) ::
  (nat_lit 526, ⟨.type "tuple", none, .seq [.str "readers" 893, .str "length" 894, .str "may_go_on" 895, .str "many" 896, .str "moves" 897, .str "_" 898, .str "longer" 899, .str "stands" 900, .str "stands_behind" 901, .str "times" 902, .str "found" 903, .str "marks" 904].toArray 0, [].toArray⟩) ::
  (nat_lit 527, ⟨.type "tuple", none, .seq [].toArray 0, [].toArray⟩) ::
  (nat_lit 529, ⟨.type "code", none, .fields [.str "tally" 890, .str "tally" 891, .str "/claim/cut.py" 892, .int 276 0, .int 3 0, .int 0 0, .int 0 0, .int 3 0, .ref 524, .bool true, .int 181 0, .ref 525, .none, .ref 526, .ref 527, .ref 528, .int 905 0, .int 276 0, .str "/claim/cut.py" 906].toArray, [].toArray⟩) ::
  (nat_lit 530, ⟨.type "function", none, .func ⟨"tally", "tally", fA (top 70), .stmts (fB (top 70)), fS (top 70), 3, [], .none, .none, .none, .str "readersapart.walks" 843, none, .ref 529, .none, 0⟩, [].toArray⟩) ::
  (nat_lit 531, ⟨.type "tuple", none, .seq [].toArray 0, [].toArray⟩) ::
  (nat_lit 534, ⟨.type "code", none, .fields [.str "some_go_on" 908, .str "some_go_on" 909, .str "/claim/cut.py" 910, .int 292 0, .int 1 0, .int 0 0, .int 0 0, .int 3 0, .ref 531, .bool true, .int 181 0, .ref 532, .none, .none, .none, .ref 533, .int 911 0, .int 292 0, .str "/claim/cut.py" 912].toArray, [].toArray⟩) ::
  (nat_lit 535, ⟨.type "function", none, .func ⟨"some_go_on", "some_go_on", fA (top 71), .stmts (fB (top 71)), fS (top 71), 3, [], .none, .none, .none, .str "readersapart.walks" 843, none, .ref 534, .none, 0⟩, [].toArray⟩) ::
  (nat_lit 536, ⟨.type "tuple", none, .seq [].toArray 0, [].toArray⟩) ::
  (nat_lit 539, ⟨.type "code", none, .fields [.str "all_go_on" 914, .str "all_go_on" 915, .str "/claim/cut.py" 916, .int 294 0, .int 1 0, .int 0 0, .int 0 0, .int 3 0, .ref 536, .bool true, .int 181 0, .ref 537, .none, .none, .none, .ref 538, .int 917 0, .int 294 0, .str "/claim/cut.py" 918].toArray, [].toArray⟩) ::
  (nat_lit 540, ⟨.type "function", none, .func ⟨"all_go_on", "all_go_on", fA (top 72), .stmts (fB (top 72)), fS (top 72), 3, [], .none, .none, .none, .str "readersapart.walks" 843, none, .ref 539, .none, 0⟩, [].toArray⟩) ::
  (nat_lit 541, ⟨.type "tuple", none, .seq [].toArray 0, [].toArray⟩) ::
  (nat_lit 543, ⟨.type "tuple", none, .seq [.str "marks" 923].toArray 0, [].toArray⟩) ::
  (nat_lit 544, ⟨.type "tuple", none, .seq [].toArray 0, [].toArray⟩) ::
  (nat_lit 546, ⟨.type "code", none, .fields [.str "all_take" 920, .str "all_take" 921, .str "/claim/cut.py" 922, .int 296 0, .int 1 0, .int 0 0, .int 0 0, .int 3 0, .ref 541, .bool true, .int 181 0, .ref 542, .none, .ref 543, .ref 544, .ref 545, .int 924 0, .int 296 0, .str "/claim/cut.py" 925].toArray, [].toArray⟩) ::
  (nat_lit 547, ⟨.type "function", none, .func ⟨"all_take", "all_take", fA (top 73), .stmts (fB (top 73)), fS (top 73), 3, [], .none, .none, .none, .str "readersapart.walks" 843, none, .ref 546, .none, 0⟩, [].toArray⟩) ::
  (nat_lit 548, ⟨.type "tuple", none, .seq [].toArray 0, [].toArray⟩) ::
  (nat_lit 550, ⟨.type "tuple", none, .seq [.str "marks" 930].toArray 0, [].toArray⟩) ::
  (nat_lit 551, ⟨.type "tuple", none, .seq [].toArray 0, [].toArray⟩) ::
  (nat_lit 553, ⟨.type "code", none, .fields [.str "are_unlike" 927, .str "are_unlike" 928, .str "/claim/cut.py" 929, .int 298 0, .int 1 0, .int 0 0, .int 0 0, .int 3 0, .ref 548, .bool true, .int 181 0, .ref 549, .none, .ref 550, .ref 551, .ref 552, .int 931 0, .int 298 0, .str "/claim/cut.py" 932].toArray, [].toArray⟩) ::
  (nat_lit 554, ⟨.type "function", none, .func ⟨"are_unlike", "are_unlike", fA (top 74), .stmts (fB (top 74)), fS (top 74), 3, [], .none, .none, .none, .str "readersapart.walks" 843, none, .ref 553, .none, 0⟩, [].toArray⟩) ::
  (nat_lit 555, ⟨.type "tuple", none, .seq [].toArray 0, [].toArray⟩) ::
  (nat_lit 558, ⟨.type "code", none, .fields [.str "start_of" 934, .str "start_of" 935, .str "/claim/cut.py" 936, .int 300 0, .int 1 0, .int 0 0, .int 0 0, .int 3 0, .ref 555, .bool true, .int 181 0, .ref 556, .none, .none, .none, .ref 557, .int 937 0, .int 300 0, .str "/claim/cut.py" 938].toArray, [].toArray⟩) ::
  (nat_lit 559, ⟨.type "function", none, .func ⟨"start_of", "start_of", fA (top 75), .stmts (fB (top 75)), fS (top 75), 3, [], .none, .none, .none, .str "readersapart.walks" 843, none, .ref 558, .none, 0⟩, [].toArray⟩) ::
  (nat_lit 560, ⟨.type "tuple", none, .seq [].toArray 0, [].toArray⟩) ::
  (nat_lit 563, ⟨.type "code", none, .fields [.str "moves_from" 940, .str "moves_from" 941, .str "/claim/cut.py" 942, .int 302 0, .int 3 0, .int 0 0, .int 0 0, .int 3 0, .ref 560, .bool true, .int 181 0, .ref 561, .none, .none, .none, .ref 562, .int 943 0, .int 302 0, .str "/claim/cut.py" 944].toArray, [].toArray⟩) ::
  (nat_lit 564, ⟨.type "function", none, .func ⟨"moves_from", "moves_from", fA (top 76), .stmts (fB (top 76)), fS (top 76), 3, [], .none, .none, .none, .str "readersapart.walks" 843, none, .ref 563, .none, 0⟩, [].toArray⟩) ::
  (nat_lit 565, ⟨.type "tuple", none, .seq [].toArray 0, [].toArray⟩) ::
  (nat_lit 567, ⟨.type "tuple", none, .seq [.str "reader" 949, .str "stand" 950, .str "sign" 951, .str "state" 952, .str "pointed" 953, .str "worth" 954].toArray 0, [].toArray⟩) ::
  (nat_lit 568, ⟨.type "tuple", none, .seq [].toArray 0, [].toArray⟩) ::
  (nat_lit 570, ⟨.type "code", none, .fields [.str "_behind" 946, .str "_behind" 947, .str "/claim/cut.py" 948, .int 309 0, .int 3 0, .int 0 0, .int 0 0, .int 3 0, .ref 565, .bool true, .int 181 0, .ref 566, .none, .ref 567, .ref 568, .ref 569, .int 955 0, .int 309 0, .str "/claim/cut.py" 956].toArray, [].toArray⟩) ::
  (nat_lit 571, ⟨.type "function", none, .func ⟨"_behind", "_behind", fA (top 77), .stmts (fB (top 77)), fS (top 77), 3, [], .none, .none, .none, .str "readersapart.walks" 843, none, .ref 570, .none, 0⟩, [].toArray⟩) ::
  (nat_lit 572, ⟨.type "tuple", none, .seq [].toArray 0, [].toArray⟩) ::
  (nat_lit 575, ⟨.type "code", none, .fields [.str "marks_of" 958, .str "marks_of" 959, .str "/claim/cut.py" 960, .int 317 0, .int 1 0, .int 0 0, .int 0 0, .int 3 0, .ref 572, .bool true, .int 181 0, .ref 573, .none, .none, .none, .ref 574, .int 961 0, .int 317 0, .str "/claim/cut.py" 962].toArray, [].toArray⟩) ::
  (nat_lit 576, ⟨.type "function", none, .func ⟨"marks_of", "marks_of", fA (top 78), .stmts (fB (top 78)), fS (top 78), 3, [], .none, .none, .none, .str "readersapart.walks" 843, none, .ref 575, .none, 0⟩, [].toArray⟩) ::
  (nat_lit 577, ⟨.type "tuple", none, .seq [].toArray 0, [].toArray⟩) ::
  (nat_lit 579, ⟨.type "tuple", none, .seq [.str "stand" 967].toArray 0, [].toArray⟩) ::
  (nat_lit 580, ⟨.type "tuple", none, .seq [].toArray 0, [].toArray⟩) ::
  (nat_lit 582, ⟨.type "code", none, .fields [.str "_mark" 964, .str "_mark" 965, .str "/claim/cut.py" 966, .int 319 0, .int 1 0, .int 0 0, .int 0 0, .int 3 0, .ref 577, .bool true, .int 181 0, .ref 578, .none, .ref 579, .ref 580, .ref 581, .int 968 0, .int 319 0, .str "/claim/cut.py" 969].toArray, [].toArray⟩) ::
  (nat_lit 583, ⟨.type "function", none, .func ⟨"_mark", "_mark", fA (top 79), .stmts (fB (top 79)), fS (top 79), 3, [], .none, .none, .none, .str "readersapart.walks" 843, none, .ref 582, .none, 0⟩, [].toArray⟩) ::
  (nat_lit 584, ⟨.type "tuple", none, .seq [].toArray 0, [].toArray⟩) ::
  (nat_lit 586, ⟨.type "tuple", none, .seq [.str "readers" 976, .str "text" 977].toArray 0, [].toArray⟩) ::
  (nat_lit 587, ⟨.type "tuple", none, .seq [].toArray 0, [].toArray⟩) ::
  (nat_lit 589, ⟨.type "code", none, .fields [.str "safety" 973, .str "safety" 974, .str "/claim/cut.py" 975, .int 324 0, .int 2 0, .int 0 0, .int 0 0, .int 3 0, .ref 584, .bool true, .int 181 0, .ref 585, .none, .ref 586, .ref 587, .ref 588, .int 978 0, .int 324 0, .str "/claim/cut.py" 979].toArray, [].toArray⟩) ::
  (nat_lit 590, ⟨.type "function", none, .func ⟨"safety", "safety", fA (top 81), .stmts (fB (top 81)), fS (top 81), 3, [], .none, .none, .none, .str "readersapart.lots" 971, none, .ref 589, .none, 0⟩, [].toArray⟩) ::
  (nat_lit 591, ⟨.type "tuple", none, .seq [].toArray 0, [].toArray⟩) ::
  (nat_lit 594, ⟨.type "code", none, .fields [.str "safety_of" 981, .str "safety_of" 982, .str "/claim/cut.py" 983, .int 328 0, .int 1 0, .int 0 0, .int 0 0, .int 3 0, .ref 591, .bool true, .int 181 0, .ref 592, .none, .none, .none, .ref 593, .int 984 0, .int 328 0, .str "/claim/cut.py" 985].toArray, [].toArray⟩) ::
  (nat_lit 595, ⟨.type "function", none, .func ⟨"safety_of", "safety_of", fA (top 82), .stmts (fB (top 82)), fS (top 82), 3, [], .none, .none, .none, .str "readersapart.lots" 971, none, .ref 594, .none, 0⟩, [].toArray⟩) ::
  (nat_lit 596, ⟨.type "tuple", none, .seq [].toArray 0, [].toArray⟩) ::
  (nat_lit 598, ⟨.type "tuple", none, .seq [.str "readers" 990].toArray 0, [].toArray⟩) ::
  (nat_lit 599, ⟨.type "tuple", none, .seq [].toArray 0, [].toArray⟩) ::
  (nat_lit 601, ⟨.type "code", none, .fields [.str "parting" 987, .str "parting" 988, .str "/claim/cut.py" 989, .int 335 0, .int 1 0, .int 0 0, .int 0 0, .int 3 0, .ref 596, .bool true, .int 181 0, .ref 597, .none, .ref 598, .ref 599, .ref 600, .int 991 0, .int 335 0, .str "/claim/cut.py" 992].toArray, [].toArray⟩) ::
  (nat_lit 602, ⟨.type "function", none, .func ⟨"parting", "parting", fA (top 83), .stmts (fB (top 83)), fS (top 83), 3, [], .none, .none, .none, .str "readersapart.lots" 971, none, .ref 601, .none, 0⟩, [].toArray⟩) ::
  (nat_lit 603, ⟨.type "tuple", none, .seq [].toArray 0, [].toArray⟩) ::
  (nat_lit 606, ⟨.type "code", none, .fields [.str "takers" 994, .str "takers" 995, .str "/claim/cut.py" 996, .int 338 0, .int 2 0, .int 0 0, .int 0 0, .int 3 0, .ref 603, .bool true, .int 181 0, .ref 604, .none, .none, .none, .ref 605, .int 997 0, .int 338 0, .str "/claim/cut.py" 998].toArray, [].toArray⟩) ::
  (nat_lit 607, ⟨.type "function", none, .func ⟨"takers", "takers", fA (top 84), .stmts (fB (top 84)), fS (top 84), 3, [], .none, .none, .none, .str "readersapart.lots" 971, none, .ref 606, .none, 0⟩, [].toArray⟩) ::
  (nat_lit 608, ⟨.type "tuple", none, .seq [].toArray 0, [].toArray⟩) ::
  (nat_lit 611, ⟨.type "code", none, .fields [.str "ways" 1000, .str "ways" 1001, .str "/claim/cut.py" 1002, .int 341 0, .int 2 0, .int 0 0, .int 0 0, .int 3 0, .ref 608, .bool true, .int 181 0, .ref 609, .none, .none, .none, .ref 610, .int 1003 0, .int 341 0, .str "/claim/cut.py" 1004].toArray, [].toArray⟩) ::
  (nat_lit 612, ⟨.type "function", none, .func ⟨"ways", "ways", fA (top 85), .stmts (fB (top 85)), fS (top 85), 3, [], .none, .none, .none, .str "readersapart.lots" 971, none, .ref 611, .none, 0⟩, [].toArray⟩) ::
  (nat_lit 613, ⟨.type "tuple", none, .seq [].toArray 0, [].toArray⟩) ::
  (nat_lit 616, ⟨.type "code", none, .fields [.str "numbers_for" 1006, .str "numbers_for" 1007, .str "/claim/cut.py" 1008, .int 347 0, .int 2 0, .int 0 0, .int 0 0, .int 3 0, .ref 613, .bool true, .int 181 0, .ref 614, .none, .none, .none, .ref 615, .int 1009 0, .int 347 0, .str "/claim/cut.py" 1010].toArray, [].toArray⟩) ::
  (nat_lit 617, ⟨.type "function", none, .func ⟨"numbers_for", "numbers_for", fA (top 86), .stmts (fB (top 86)), fS (top 86), 3, [], .none, .none, .none, .str "readersapart.lots" 971, none, .ref 616, .none, 0⟩, [].toArray⟩) ::
  (nat_lit 618, ⟨.type "tuple", none, .seq [].toArray 0, [].toArray⟩) ::
  (nat_lit 621, ⟨.type "code", none, .fields [.str "_rows_of_numbers" 1012, .str "_rows_of_numbers" 1013, .str "/claim/cut.py" 1014, .int 349 0, .int 2 0, .int 0 0, .int 0 0, .int 3 0, .ref 618, .bool true, .int 181 0, .ref 619, .none, .none, .none, .ref 620, .int 1015 0, .int 349 0, .str "/claim/cut.py" 1016].toArray, [].toArray⟩) ::
  (nat_lit 622, ⟨.type "function", none, .func ⟨"_rows_of_numbers", "_rows_of_numbers", fA (top 87), .stmts (fB (top 87)), fS (top 87), 3, [], .none, .none, .none, .str "readersapart.lots" 971, none, .ref 621, .none, 0⟩, [].toArray⟩) ::
  (nat_lit 630, ⟨.type "tuple", none, .seq [].toArray 0, [].toArray⟩) ::
  (nat_lit 632, ⟨.type "tuple", none, .seq [.str "self" 1035, .str "readers" 1036].toArray 0, [].toArray⟩) ::
  (nat_lit 633, ⟨.type "tuple", none, .seq [].toArray 0, [].toArray⟩) ::
  (nat_lit 635, ⟨.type "code", none, .fields [.str "__init__" 1032, .str "Column.__init__" 1033, .str "/claim/cut.py" 1034, .int 356 0, .int 2 0, .int 0 0, .int 0 0, .int 3 0, .ref 630, .bool true, .int 181 0, .ref 631, .none, .ref 632, .ref 633, .ref 634, .int 1037 0, .int 356 0, .str "/claim/cut.py" 1038].toArray, [].toArray⟩) ::
  (nat_lit 636, ⟨.type "function", none, .func ⟨"__init__", "Column.__init__", fA (inC (top 89) 0), .stmts (fB (inC (top 89) 0)), fS (inC (top 89) 0), 3, [], .none, .none, .none, .str "readersapart.columns" 1018, none, .ref 635, .none, 0⟩, [].toArray⟩) ::
  (nat_lit 637, ⟨.type "tuple", none, .seq [].toArray 0, [].toArray⟩) ::
  (nat_lit 639, ⟨.type "tuple", none, .seq [.str "self" 1043].toArray 0, [].toArray⟩) ::
  (nat_lit 640, ⟨.type "tuple", none, .seq [].toArray 0, [].toArray⟩) ::
  (nat_lit 642, ⟨.type "code", none, .fields [.str "__len__" 1040, .str "Column.__len__" 1041, .str "/claim/cut.py" 1042, .int 361 0, .int 1 0, .int 0 0, .int 0 0, .int 3 0, .ref 637, .bool true, .int 181 0, .ref 638, .none, .ref 639, .ref 640, .ref 641, .int 1044 0, .int 361 0, .str "/claim/cut.py" 1045].toArray, [].toArray⟩) ::
  (nat_lit 643, ⟨.type "function", none, .func ⟨"__len__", "Column.__len__", fA (inC (top 89) 1), .stmts (fB (inC (top 89) 1)), fS (inC (top 89) 1), 3, [], .none, .none, .none, .str "readersapart.columns" 1018, none, .ref 642, .none, 0⟩, [].toArray⟩) ::
  (nat_lit 644, ⟨.type "tuple", none, .seq [].toArray 0, [].toArray⟩) ::
  (nat_lit 646, ⟨.type "tuple", none, .seq [.str "self" 1050].toArray 0, [].toArray⟩) ::
  (nat_lit 647, ⟨.type "tuple", none, .seq [].toArray 0, [].toArray⟩) ::
  (nat_lit 649, ⟨.type "code", none, .fields [.str "readers" 1047, .str "Column.readers" 1048, .str "/claim/cut.py" 1049, .int 364 0, .int 1 0, .int 0 0, .int 0 0, .int 3 0, .ref 644, .bool true, .int 181 0, .ref 645, .none, .ref 646, .ref 647, .ref 648, .int 1051 0, .int 364 0, .str "/claim/cut.py" 1052].toArray, [].toArray⟩) ::
  (nat_lit 650, ⟨.type "function", none, .func ⟨"readers", "Column.readers", fA (inC (top 89) 2), .stmts (fB (inC (top 89) 2)), fS (inC (top 89) 2), 3, [], .none, .none, .none, .str "readersapart.columns" 1018, none, .ref 649, .none, 0⟩, [].toArray⟩) ::
  (nat_lit 651, ⟨.type "property", none, .fields [.ref 650, .none, .none, .none, .str "readers" 1054, .bool false].toArray, [].toArray⟩) ::
  (nat_lit 652, ⟨.type "tuple", none, .seq [].toArray 0, [].toArray⟩) ::
  (nat_lit 655, ⟨.type "code", none, .fields [.str "texts" 1055, .str "Column.texts" 1056, .str "/claim/cut.py" 1057, .int 368 0, .int 1 0, .int 0 0, .int 0 0, .int 3 0, .ref 652, .bool true, .int 181 0, .ref 653, .none, .none, .none, .ref 654, .int 1058 0, .int 368 0, .str "/claim/cut.py" 1059].toArray, [].toArray⟩) ::
  (nat_lit 656, ⟨.type "function", none, .func ⟨"texts", "Column.texts", fA (inC (top 89) 3), .stmts (fB (inC (top 89) 3)), fS (inC (top 89) 3), 3, [], .none, .none, .none, .str "readersapart.columns" 1018, none, .ref 655, .none, 0⟩, [].toArray⟩) ::
  (nat_lit 657, ⟨.type "property", none, .fields [.ref 656, .none, .none, .none, .str "texts" 1061, .bool false].toArray, [].toArray⟩) ::
  (nat_lit 658, ⟨.type "tuple", none, .seq [].toArray 0, [].toArray⟩) ::
  (nat_lit 660, ⟨.type "tuple", none, .seq [.str "self" 1065, .str "text" 1066].toArray 0, [].toArray⟩) ::
  (nat_lit 661, ⟨.type "tuple", none, .seq [].toArray 0, [].toArray⟩) ::
  (nat_lit 663, ⟨.type "code", none, .fields [.str "add" 1062, .str "Column.add" 1063, .str "/claim/cut.py" 1064, .int 372 0, .int 2 0, .int 0 0, .int 0 0, .int 3 0, .ref 658, .bool true, .int 181 0, .ref 659, .none, .ref 660, .ref 661, .ref 662, .int 1067 0, .int 372 0, .str "/claim/cut.py" 1068].toArray, [].toArray⟩) ::
  (nat_lit 664, ⟨.type "function", none, .func ⟨"add", "Column.add", fA (inC (top 89) 4), .stmts (fB (inC (top 89) 4)), fS (inC (top 89) 4), 3, [], .none, .none, .none, .str "readersapart.columns" 1018, none, .ref 663, .none, 0⟩, [].toArray⟩) ::
  (nat_lit 665, ⟨.type "tuple", none, .seq [].toArray 0, [].toArray⟩) ::
  (nat_lit 668, ⟨.type "code", none, .fields [.str "left" 1070, .str "Column.left" 1071, .str "/claim/cut.py" 1072, .int 375 0, .int 1 0, .int 0 0, .int 0 0, .int 3 0, .ref 665, .bool true, .int 181 0, .ref 666, .none, .none, .none, .ref 667, .int 1073 0, .int 375 0, .str "/claim/cut.py" 1074].toArray, [].toArray⟩) ::
  (nat_lit 669, ⟨.type "function", none, .func ⟨"left", "Column.left", fA (inC (top 89) 5), .stmts (fB (inC (top 89) 5)), fS (inC (top 89) 5), 3, [], .none, .none, .none, .str "readersapart.columns" 1018, none, .ref 668, .none, 0⟩, [].toArray⟩) ::
  (nat_lit 670, ⟨.type "tuple", none, .seq [].toArray 0, [].toArray⟩) ::
  (nat_lit 673, ⟨.type "code", none, .fields [.str "numbers" 1076, .str "Column.numbers" 1077, .str "/claim/cut.py" 1078, .int 378 0, .int 2 0, .int 0 0, .int 0 0, .int 3 0, .ref 670, .bool true, .int 181 0, .ref 671, .none, .none, .none, .ref 672, .int 1079 0, .int 378 0, .str "/claim/cut.py" 1080].toArray, [].toArray⟩) ::
  (nat_lit 674, ⟨.type "function", none, .func ⟨"numbers", "Column.numbers", fA (inC (top 89) 6), .stmts (fB (inC (top 89) 6)), fS (inC (top 89) 6), 3, [], .none, .none, .none, .str "readersapart.columns" 1018, none, .ref 673, .none, 0⟩, [].toArray⟩) ::
  (nat_lit 675, ⟨.type "tuple", none, .seq [].toArray 0, [].toArray⟩) ::
  (nat_lit 677, ⟨.type "tuple", none, .seq [.str "self" 1085].toArray 0, [].toArray⟩) ::
  (nat_lit 678, ⟨.type "tuple", none, .seq [].toArray 0, [].toArray⟩) ::
  (nat_lit 680, ⟨.type "code", none, .fields [.str "undo" 1082, .str "Column.undo" 1083, .str "/claim/cut.py" 1084, .int 381 0, .int 1 0, .int 0 0, .int 0 0, .int 3 0, .ref 675, .bool true, .int 181 0, .ref 676, .none, .ref 677, .ref 678, .ref 679, .int 1086 0, .int 381 0, .str "/claim/cut.py" 1087].toArray, [].toArray⟩) ::
  (nat_lit 681, ⟨.type "function", none, .func ⟨"undo", "Column.undo", fA (inC (top 89) 7), .stmts (fB (inC (top 89) 7)), fS (inC (top 89) 7), 3, [], .none, .none, .none, .str "readersapart.columns" 1018, none, .ref 680, .none, 0⟩, [].toArray⟩) ::
  (nat_lit 682, ⟨.type "tuple", none, .seq [].toArray 0, [].toArray⟩) ::
  (nat_lit 684, ⟨.type "tuple", none, .seq [.str "self" 1092].toArray 0, [].toArray⟩) ::
  (nat_lit 685, ⟨.type "tuple", none, .seq [].toArray 0, [].toArray⟩) ::
  (nat_lit 687, ⟨.type "code", none, .fields [.str "copy" 1089, .str "Column.copy" 1090, .str "/claim/cut.py" 1091, .int 384 0, .int 1 0, .int 0 0, .int 0 0, .int 3 0, .ref 682, .bool true, .int 181 0, .ref 683, .none, .ref 684, .ref 685, .ref 686, .int 1093 0, .int 384 0, .str "/claim/cut.py" 1094].toArray, [].toArray⟩) ::
  (nat_lit 688, ⟨.type "function", none, .func ⟨"copy", "Column.copy", fA (inC (top 89) 8), .stmts (fB (inC (top 89) 8)), fS (inC (top 89) 8), 3, [], .none, .none, .none, .str "readersapart.columns" 1018, none, .ref 687, .none, 0⟩, [].toArray⟩) ::
  (nat_lit 689, ⟨.type "tuple", none, .seq [.str "_readers" 1096, .str "_rows" 1097].toArray 0, [].toArray⟩) ::
  (nat_lit 690, ⟨.type "dict", none, .dict [e P "__module__" 1027 (.str "readersapart.columns" 1018), e P "__firstlineno__" 1031 (.int 354 1030), e P "__init__" 1039 (.ref 636), e P "__len__" 1046 (.ref 643), e P "readers" 1054 (.ref 651), e P "texts" 1061 (.ref 657), e P "add" 1069 (.ref 664), e P "left" 1075 (.ref 669), e P "numbers" 1081 (.ref 674), e P "undo" 1088 (.ref 681), e P "copy" 1095 (.ref 688), e P "__static_attributes__" 1098 (.ref 689), e P "__dict__" 1100 (.ref 692), e P "__weakref__" 1102 (.ref 693), e P "__doc__" 1103 (.none)].toArray 4, [].toArray⟩) ::
  (nat_lit 691, ⟨.type "type", none, .cls ⟨"Column", [.type "object"], [.ref 691, .type "object"], 690, "Column", true, [], [], false, none, false⟩, [none, none, some (.str "Column" 1020), some (.str "Column" 1028), some (.builtin "object.__new__"), some (.bool true)].toArray⟩) ::
  (nat_lit 692, ⟨.type "getset_descriptor", none, .fields [.str "__dict__" 1099, .ref 691, .builtin "function.__dict__", .builtin "function.__dict__#set"].toArray, [].toArray⟩) ::
  (nat_lit 693, ⟨.type "getset_descriptor", none, .fields [.str "__weakref__" 1101, .ref 691, .builtin "ExceptionGroup.__weakref__", .none].toArray, [].toArray⟩) ::
  (nat_lit 696, ⟨.type "tuple", none, .seq [].toArray 0, [].toArray⟩) ::
  (nat_lit 698, ⟨.type "tuple", none, .seq [.str "writer" 1111, .str "reader" 1112, .str "found" 1113, .str "first" 1114].toArray 0, [].toArray⟩) ::
  (nat_lit 699, ⟨.type "tuple", none, .seq [].toArray 0, [].toArray⟩) ::
  (nat_lit 701, ⟨.type "code", none, .fields [.str "off" 1108, .str "off" 1109, .str "/claim/cut.py" 1110, .int 387 0, .int 2 0, .int 0 0, .int 0 0, .int 3 0, .ref 696, .bool true, .int 181 0, .ref 697, .none, .ref 698, .ref 699, .ref 700, .int 1115 0, .int 387 0, .str "/claim/cut.py" 1116].toArray, [].toArray⟩) ::
  (nat_lit 702, ⟨.type "function", none, .func ⟨"off", "off", fA (top 91), .stmts (fB (top 91)), fS (top 91), 3, [], .none, .none, .none, .str "readersapart.offs" 1106, none, .ref 701, .none, 0⟩, [].toArray⟩) ::
  (nat_lit 703, ⟨.type "tuple", none, .seq [].toArray 0, [].toArray⟩) ::
  (nat_lit 705, ⟨.type "tuple", none, .seq [.str "one" 1123, .str "other" 1124].toArray 0, [].toArray⟩) ::
  (nat_lit 706, ⟨.type "tuple", none, .seq [].toArray 0, [].toArray⟩) ::
  (nat_lit 708, ⟨.type "code", none, .fields [.str "alone" 1120, .str "alone" 1121, .str "/claim/cut.py" 1122, .int 398 0, .int 2 0, .int 0 0, .int 0 0, .int 3 0, .ref 703, .bool true, .int 181 0, .ref 704, .none, .ref 705, .ref 706, .ref 707, .int 1125 0, .int 398 0, .str "/claim/cut.py" 1126].toArray, [].toArray⟩) ::
  (nat_lit 709, ⟨.type "function", none, .func ⟨"alone", "alone", fA (top 93), .stmts (fB (top 93)), fS (top 93), 3, [], .none, .none, .none, .str "readersapart.pairs" 1118, none, .ref 708, .none, 0⟩, [].toArray⟩) ::
  (nat_lit 710, ⟨.type "tuple", none, .seq [].toArray 0, [].toArray⟩) ::
  (nat_lit 712, ⟨.type "tuple", none, .seq [.str "one" 1131, .str "other" 1132].toArray 0, [].toArray⟩) ::
  (nat_lit 713, ⟨.type "tuple", none, .seq [].toArray 0, [].toArray⟩) ::
  (nat_lit 715, ⟨.type "code", none, .fields [.str "two_numbers" 1128, .str "two_numbers" 1129, .str "/claim/cut.py" 1130, .int 401 0, .int 2 0, .int 0 0, .int 0 0, .int 3 0, .ref 710, .bool true, .int 181 0, .ref 711, .none, .ref 712, .ref 713, .ref 714, .int 1133 0, .int 401 0, .str "/claim/cut.py" 1134].toArray, [].toArray⟩) ::
  (nat_lit 716, ⟨.type "function", none, .func ⟨"two_numbers", "two_numbers", fA (top 94), .stmts (fB (top 94)), fS (top 94), 3, [], .none, .none, .none, .str "readersapart.pairs" 1118, none, .ref 715, .none, 0⟩, [].toArray⟩) ::
  (nat_lit 717, ⟨.type "tuple", none, .seq [].toArray 0, [].toArray⟩) ::
  (nat_lit 719, ⟨.type "tuple", none, .seq [.str "one" 1139, .str "other" 1140].toArray 0, [].toArray⟩) ::
  (nat_lit 720, ⟨.type "tuple", none, .seq [].toArray 0, [].toArray⟩) ::
  (nat_lit 722, ⟨.type "code", none, .fields [.str "same" 1136, .str "same" 1137, .str "/claim/cut.py" 1138, .int 404 0, .int 2 0, .int 0 0, .int 0 0, .int 3 0, .ref 717, .bool true, .int 181 0, .ref 718, .none, .ref 719, .ref 720, .ref 721, .int 1141 0, .int 404 0, .str "/claim/cut.py" 1142].toArray, [].toArray⟩) ::
  (nat_lit 723, ⟨.type "function", none, .func ⟨"same", "same", fA (top 95), .stmts (fB (top 95)), fS (top 95), 3, [], .none, .none, .none, .str "readersapart.pairs" 1118, none, .ref 722, .none, 0⟩, [].toArray⟩) ::
  (nat_lit 724, ⟨.type "tuple", none, .seq [].toArray 0, [].toArray⟩) ::
  (nat_lit 727, ⟨.type "code", none, .fields [.str "count" 1144, .str "count" 1145, .str "/claim/cut.py" 1146, .int 407 0, .int 2 0, .int 0 0, .int 0 0, .int 3 0, .ref 724, .bool true, .int 181 0, .ref 725, .none, .none, .none, .ref 726, .int 1147 0, .int 407 0, .str "/claim/cut.py" 1148].toArray, [].toArray⟩) ::
  (nat_lit 728, ⟨.type "function", none, .func ⟨"count", "count", fA (top 96), .stmts (fB (top 96)), fS (top 96), 3, [], .none, .none, .none, .str "readersapart.pairs" 1118, none, .ref 727, .none, 0⟩, [].toArray⟩) ::
  (nat_lit 729, ⟨.type "tuple", none, .seq [].toArray 0, [].toArray⟩) ::
  (nat_lit 732, ⟨.type "code", none, .fields [.str "count_both" 1150, .str "count_both" 1151, .str "/claim/cut.py" 1152, .int 412 0, .int 3 0, .int 0 0, .int 0 0, .int 3 0, .ref 729, .bool true, .int 181 0, .ref 730, .none, .none, .none, .ref 731, .int 1153 0, .int 412 0, .str "/claim/cut.py" 1154].toArray, [].toArray⟩) ::
  (nat_lit 733, ⟨.type "function", none, .func ⟨"count_both", "count_both", fA (top 97), .stmts (fB (top 97)), fS (top 97), 3, [], .none, .none, .none, .str "readersapart.pairs" 1118, none, .ref 732, .none, 0⟩, [].toArray⟩) ::
  (nat_lit 734, ⟨.type "tuple", none, .seq [].toArray 0, [].toArray⟩) ::
  (nat_lit 736, ⟨.type "tuple", none, .seq [.str "one" 1159, .str "other" 1160].toArray 0, [].toArray⟩) ::
  (nat_lit 737, ⟨.type "tuple", none, .seq [].toArray 0, [].toArray⟩) ::
  (nat_lit 739, ⟨.type "code", none, .fields [.str "_check_pair" 1156, .str "_check_pair" 1157, .str "/claim/cut.py" 1158, .int 418 0, .int 2 0, .int 0 0, .int 0 0, .int 3 0, .ref 734, .bool true, .int 181 0, .ref 735, .none, .ref 736, .ref 737, .ref 738, .int 1161 0, .int 418 0, .str "/claim/cut.py" 1162].toArray, [].toArray⟩) ::
  (nat_lit 740, ⟨.type "function", none, .func ⟨"_check_pair", "_check_pair", fA (top 98), .stmts (fB (top 98)), fS (top 98), 3, [], .none, .none, .none, .str "readersapart.pairs" 1118, none, .ref 739, .none, 0⟩, [].toArray⟩) ::
  (nat_lit 741, ⟨.type "tuple", none, .seq [].toArray 0, [].toArray⟩) ::
  (nat_lit 743, ⟨.type "tuple", none, .seq [.str "stands" 1167].toArray 0, [].toArray⟩) ::
  (nat_lit 744, ⟨.type "tuple", none, .seq [].toArray 0, [].toArray⟩) ::
  (nat_lit 746, ⟨.type "code", none, .fields [.str "_first_goes_on" 1164, .str "_first_goes_on" 1165, .str "/claim/cut.py" 1166, .int 421 0, .int 1 0, .int 0 0, .int 0 0, .int 3 0, .ref 741, .bool true, .int 181 0, .ref 742, .none, .ref 743, .ref 744, .ref 745, .int 1168 0, .int 421 0, .str "/claim/cut.py" 1169].toArray, [].toArray⟩) ::
  (nat_lit 747, ⟨.type "function", none, .func ⟨"_first_goes_on", "_first_goes_on", fA (top 99), .stmts (fB (top 99)), fS (top 99), 3, [], .none, .none, .none, .str "readersapart.pairs" 1118, none, .ref 746, .none, 0⟩, [].toArray⟩) ::
  (nat_lit 748, ⟨.type "tuple", none, .seq [].toArray 0, [].toArray⟩) ::
  (nat_lit 750, ⟨.type "tuple", none, .seq [.str "marks" 1174].toArray 0, [].toArray⟩) ::
  (nat_lit 751, ⟨.type "tuple", none, .seq [].toArray 0, [].toArray⟩) ::
  (nat_lit 753, ⟨.type "code", none, .fields [.str "_just_first_takes" 1171, .str "_just_first_takes" 1172, .str "/claim/cut.py" 1173, .int 423 0, .int 1 0, .int 0 0, .int 0 0, .int 3 0, .ref 748, .bool true, .int 181 0, .ref 749, .none, .ref 750, .ref 751, .ref 752, .int 1175 0, .int 423 0, .str "/claim/cut.py" 1176].toArray, [].toArray⟩) ::
  (nat_lit 754, ⟨.type "function", none, .func ⟨"_just_first_takes", "_just_first_takes", fA (top 100), .stmts (fB (top 100)), fS (top 100), 3, [], .none, .none, .none, .str "readersapart.pairs" 1118, none, .ref 753, .none, 0⟩, [].toArray⟩) ::
  (nat_lit 755, ⟨.type "tuple", none, .seq [].toArray 0, [].toArray⟩) ::
  (nat_lit 757, ⟨.type "tuple", none, .seq [.str "marks" 1181].toArray 0, [].toArray⟩) ::
  (nat_lit 758, ⟨.type "tuple", none, .seq [].toArray 0, [].toArray⟩) ::
  (nat_lit 760, ⟨.type "code", none, .fields [.str "_mean_two" 1178, .str "_mean_two" 1179, .str "/claim/cut.py" 1180, .int 425 0, .int 1 0, .int 0 0, .int 0 0, .int 3 0, .ref 755, .bool true, .int 181 0, .ref 756, .none, .ref 757, .ref 758, .ref 759, .int 1182 0, .int 425 0, .str "/claim/cut.py" 1183].toArray, [].toArray⟩) ::
  (nat_lit 761, ⟨.type "function", none, .func ⟨"_mean_two", "_mean_two", fA (top 101), .stmts (fB (top 101)), fS (top 101), 3, [], .none, .none, .none, .str "readersapart.pairs" 1118, none, .ref 760, .none, 0⟩, [].toArray⟩) ::
  (nat_lit 762, ⟨.type "dict", none, .dict [e P "." 1187 (.str "dot" 1188), e P "," 1189 (.str "comma" 1190), e P "'" 1191 (.str "apostrophe" 1192), e P " " 1193 (.str "blank" 1194), e P "" 1195 (.str "none" 1196)].toArray 5, [].toArray⟩) ::
  (nat_lit 763, ⟨.type "tuple", none, .seq [.str "must" 1203, .str "zeros" 1204, .str "blanks" 1205, .str "exponent" 1206].toArray 0, [].toArray⟩) ::
  (nat_lit 764, ⟨.type "tuple", none, .seq [].toArray 0, [].toArray⟩) ::
  (nat_lit 767, ⟨.type "code", none, .fields [.str "write" 1208, .str "write" 1209, .str "/claim/cut.py" 1210, .int 430 0, .int 1 0, .int 0 0, .int 0 0, .int 3 0, .ref 764, .bool true, .int 181 0, .ref 765, .none, .none, .none, .ref 766, .int 1211 0, .int 430 0, .str "/claim/cut.py" 1212].toArray, [].toArray⟩) ::
  (nat_lit 768, ⟨.type "function", none, .func ⟨"write", "write", fA (top 105), .stmts (fB (top 105)), fS (top 105), 3, [], .none, .none, .none, .str "readersapart.texts" 1185, none, .ref 767, .none, 0⟩, [].toArray⟩) ::
  (nat_lit 769, ⟨.type "tuple", none, .seq [].toArray 0, [].toArray⟩) ::
  (nat_lit 771, ⟨.type "tuple", none, .seq [.str "value" 1217].toArray 0, [].toArray⟩) ::
  (nat_lit 772, ⟨.type "tuple", none, .seq [].toArray 0, [].toArray⟩) ::
  (nat_lit 774, ⟨.type "code", none, .fields [.str "_word" 1214, .str "_word" 1215, .str "/claim/cut.py" 1216, .int 435 0, .int 1 0, .int 0 0, .int 0 0, .int 3 0, .ref 769, .bool true, .int 181 0, .ref 770, .none, .ref 771, .ref 772, .ref 773, .int 1218 0, .int 435 0, .str "/claim/cut.py" 1219].toArray, [].toArray⟩) ::
  (nat_lit 775, ⟨.type "function", none, .func ⟨"_word", "_word", fA (top 106), .stmts (fB (top 106)), fS (top 106), 3, [], .none, .none, .none, .str "readersapart.texts" 1185, none, .ref 774, .none, 0⟩, [].toArray⟩) ::
  (nat_lit 776, ⟨.type "tuple", none, .seq [].toArray 0, [].toArray⟩) ::
  (nat_lit 778, ⟨.type "tuple", none, .seq [.str "reader" 1226, .str "number" 1227].toArray 0, [].toArray⟩) ::
  (nat_lit 779, ⟨.type "tuple", none, .seq [].toArray 0, [].toArray⟩) ::
  (nat_lit 781, ⟨.type "code", none, .fields [.str "written" 1223, .str "written" 1224, .str "/claim/cut.py" 1225, .int 438 0, .int 2 0, .int 0 0, .int 0 0, .int 3 0, .ref 776, .bool true, .int 181 0, .ref 777, .none, .ref 778, .ref 779, .ref 780, .int 1228 0, .int 438 0, .str "/claim/cut.py" 1229].toArray, [].toArray⟩) ::
  (nat_lit 782, ⟨.type "function", none, .func ⟨"written", "written", fA (top 108), .stmts (fB (top 108)), fS (top 108), 3, [], .none, .none, .none, .str "readersapart.writing" 1221, none, .ref 781, .none, 0⟩, [].toArray⟩) ::
  (nat_lit 783, ⟨.type "tuple", none, .seq [].toArray 0, [].toArray⟩) ::
  (nat_lit 785, ⟨.type "tuple", none, .seq [.str "writer" 1234, .str "reader" 1235, .str "number" 1236, .str "text" 1237].toArray 0, [].toArray⟩) ::
  (nat_lit 786, ⟨.type "tuple", none, .seq [].toArray 0, [].toArray⟩) ::
  (nat_lit 788, ⟨.type "code", none, .fields [.str "misread" 1231, .str "misread" 1232, .str "/claim/cut.py" 1233, .int 442 0, .int 3 0, .int 0 0, .int 0 0, .int 3 0, .ref 783, .bool true, .int 181 0, .ref 784, .none, .ref 785, .ref 786, .ref 787, .int 1238 0, .int 442 0, .str "/claim/cut.py" 1239].toArray, [].toArray⟩) ::
  (nat_lit 789, ⟨.type "function", none, .func ⟨"misread", "misread", fA (top 109), .stmts (fB (top 109)), fS (top 109), 3, [], .none, .none, .none, .str "readersapart.writing" 1221, none, .ref 788, .none, 0⟩, [].toArray⟩) ::
  (nat_lit 790, ⟨.type "tuple", none, .seq [].toArray 0, [].toArray⟩) ::
  (nat_lit 793, ⟨.type "code", none, .fields [.str "shortest" 1241, .str "shortest" 1242, .str "/claim/cut.py" 1243, .int 448 0, .int 2 0, .int 0 0, .int 0 0, .int 3 0, .ref 790, .bool true, .int 181 0, .ref 791, .none, .none, .none, .ref 792, .int 1244 0, .int 448 0, .str "/claim/cut.py" 1245].toArray, [].toArray⟩) ::
  (nat_lit 794, ⟨.type "function", none, .func ⟨"shortest", "shortest", fA (top 110), .stmts (fB (top 110)), fS (top 110), 3, [], .none, .none, .none, .str "readersapart.writing" 1221, none, .ref 793, .none, 0⟩, [].toArray⟩) ::
  (nat_lit 795, ⟨.type "tuple", none, .seq [].toArray 0, [].toArray⟩) ::
  (nat_lit 797, ⟨.type "tuple", none, .seq [.str "reader" 1250, .str "number" 1251].toArray 0, [].toArray⟩) ::
  (nat_lit 798, ⟨.type "tuple", none, .seq [].toArray 0, [].toArray⟩) ::
  (nat_lit 800, ⟨.type "code", none, .fields [.str "text_of" 1247, .str "text_of" 1248, .str "/claim/cut.py" 1249, .int 456 0, .int 2 0, .int 0 0, .int 0 0, .int 3 0, .ref 795, .bool true, .int 181 0, .ref 796, .none, .ref 797, .ref 798, .ref 799, .int 1252 0, .int 456 0, .str "/claim/cut.py" 1253].toArray, [].toArray⟩) ::
  (nat_lit 801, ⟨.type "function", none, .func ⟨"text_of", "text_of", fA (top 111), .stmts (fB (top 111)), fS (top 111), 3, [], .none, .none, .none, .str "readersapart.writing" 1221, none, .ref 800, .none, 0⟩, [].toArray⟩) ::
  (nat_lit 802, ⟨.type "tuple", none, .seq [].toArray 0, [].toArray⟩) ::
  (nat_lit 804, ⟨.type "tuple", none, .seq [.str "reader" 1258, .str "number" 1259, .str "found" 1260, .str "power" 1261, .str "ending" 1262, .str "comma" 1263, .str "size" 1264, .str "text" 1265].toArray 0, [].toArray⟩) ::
  (nat_lit 805, ⟨.type "tuple", none, .seq [].toArray 0, [].toArray⟩) ::
  (nat_lit 807, ⟨.type "code", none, .fields [.str "_short_texts" 1255, .str "_short_texts" 1256, .str "/claim/cut.py" 1257, .int 458 0, .int 2 0, .int 0 0, .int 0 0, .int 3 0, .ref 802, .bool true, .int 181 0, .ref 803, .none, .ref 804, .ref 805, .ref 806, .int 1266 0, .int 458 0, .str "/claim/cut.py" 1267].toArray, [].toArray⟩) ::
  (nat_lit 808, ⟨.type "function", none, .func ⟨"_short_texts", "_short_texts", fA (top 112), .stmts (fB (top 112)), fS (top 112), 3, [], .none, .none, .none, .str "readersapart.writing" 1221, none, .ref 807, .none, 0⟩, [].toArray⟩) ::
  (nat_lit 809, ⟨.type "tuple", none, .seq [].toArray 0, [].toArray⟩) ::
  (nat_lit 811, ⟨.type "tuple", none, .seq [.str "reader" 1272, .str "number" 1273, .str "n" 1274, .str "k" 1275].toArray 0, [].toArray⟩) ::
  (nat_lit 812, ⟨.type "tuple", none, .seq [].toArray 0, [].toArray⟩) ::
  (nat_lit 814, ⟨.type "code", none, .fields [.str "_powers" 1269, .str "_powers" 1270, .str "/claim/cut.py" 1271, .int 468 0, .int 2 0, .int 0 0, .int 0 0, .int 3 0, .ref 809, .bool true, .int 181 0, .ref 810, .none, .ref 811, .ref 812, .ref 813, .int 1276 0, .int 468 0, .str "/claim/cut.py" 1277].toArray, [].toArray⟩) ::
  (nat_lit 815, ⟨.type "function", none, .func ⟨"_powers", "_powers", fA (top 113), .stmts (fB (top 113)), fS (top 113), 3, [], .none, .none, .none, .str "readersapart.writing" 1221, none, .ref 814, .none, 0⟩, [].toArray⟩) ::
  (nat_lit 816, ⟨.type "tuple", none, .seq [].toArray 0, [].toArray⟩) ::
  (nat_lit 818, ⟨.type "tuple", none, .seq [.str "reader" 1282, .str "number" 1283, .str "size" 1284].toArray 0, [].toArray⟩) ::
  (nat_lit 819, ⟨.type "tuple", none, .seq [].toArray 0, [].toArray⟩) ::
  (nat_lit 821, ⟨.type "code", none, .fields [.str "_signed" 1279, .str "_signed" 1280, .str "/claim/cut.py" 1281, .int 473 0, .int 3 0, .int 0 0, .int 0 0, .int 3 0, .ref 816, .bool true, .int 181 0, .ref 817, .none, .ref 818, .ref 819, .ref 820, .int 1285 0, .int 473 0, .str "/claim/cut.py" 1286].toArray, [].toArray⟩) ::
  (nat_lit 822, ⟨.type "function", none, .func ⟨"_signed", "_signed", fA (top 114), .stmts (fB (top 114)), fS (top 114), 3, [], .none, .none, .none, .str "readersapart.writing" 1221, none, .ref 821, .none, 0⟩, [].toArray⟩) ::
  (nat_lit 823, ⟨.type "tuple", none, .seq [].toArray 0, [].toArray⟩) ::
  (nat_lit 825, ⟨.type "tuple", none, .seq [.str "reader" 1291, .str "comma" 1292, .str "number" 1293, .str "n" 1294, .str "k" 1295, .str "behind" 1296, .str "figures" 1297, .str "cut" 1298, .str "whole" 1299].toArray 0, [].toArray⟩) ::
  (nat_lit 826, ⟨.type "tuple", none, .seq [].toArray 0, [].toArray⟩) ::
  (nat_lit 828, ⟨.type "code", none, .fields [.str "_size" 1288, .str "_size" 1289, .str "/claim/cut.py" 1290, .int 479 0, .int 3 0, .int 0 0, .int 0 0, .int 3 0, .ref 823, .bool true, .int 181 0, .ref 824, .none, .ref 825, .ref 826, .ref 827, .int 1300 0, .int 479 0, .str "/claim/cut.py" 1301].toArray, [].toArray⟩) ::
  (nat_lit 829, ⟨.type "function", none, .func ⟨"_size", "_size", fA (top 115), .stmts (fB (top 115)), fS (top 115), 3, [], .none, .none, .none, .str "readersapart.writing" 1221, none, .ref 828, .none, 0⟩, [].toArray⟩) ::
  (nat_lit 830, ⟨.type "tuple", none, .seq [].toArray 0, [].toArray⟩) ::
  (nat_lit 832, ⟨.type "tuple", none, .seq [.str "whole" 1306, .str "comma" 1307, .str "rest" 1308, .str "groups" 1309, .str "left" 1310].toArray 0, [].toArray⟩) ::
  (nat_lit 833, ⟨.type "tuple", none, .seq [].toArray 0, [].toArray⟩) ::
  (nat_lit 835, ⟨.type "code", none, .fields [.str "_in_groups" 1303, .str "_in_groups" 1304, .str "/claim/cut.py" 1305, .int 488 0, .int 3 0, .int 0 0, .int 0 0, .int 3 0, .ref 830, .bool true, .int 181 0, .ref 831, .none, .ref 832, .ref 833, .ref 834, .int 1311 0, .int 488 0, .str "/claim/cut.py" 1312].toArray, [].toArray⟩) ::
  (nat_lit 836, ⟨.type "function", none, .func ⟨"_in_groups", "_in_groups", fA (top 116), .stmts (fB (top 116)), fS (top 116), 3, [], .none, .none, .none, .str "readersapart.writing" 1221, none, .ref 835, .none, 0⟩, [].toArray⟩) ::
  (nat_lit 837, ⟨.type "tuple", none, .seq [].toArray 0, [].toArray⟩) ::
  (nat_lit 839, ⟨.type "tuple", none, .seq [.str "_law_row" 1319, .str "_law_many" 1320, .str "_law_found" 1321, .str "_law_cell" 1322].toArray 0, [].toArray⟩) ::
  (nat_lit 840, ⟨.type "tuple", none, .seq [].toArray 0, [].toArray⟩) ::
  (nat_lit 842, ⟨.type "code", none, .fields [.str "_law_taken" 1316, .str "_law_taken" 1317, .str "/claim/cut.py" 1318, .int 498 0, .int 2 0, .int 0 0, .int 0 0, .int 3 0, .ref 837, .bool true, .int 181 0, .ref 838, .none, .ref 839, .ref 840, .ref 841, .int 1323 0, .int 498 0, .str "/claim/cut.py" 1324].toArray, [].toArray⟩) ::
  (nat_lit 843, ⟨.type "function", none, .func ⟨"_law_taken", "_law_taken", fA (top 118), .stmts (fB (top 118)), fS (top 118), 3, [], .none, .none, .none, .str "law_readersapart_k02_no_readers" 1314, none, .ref 842, .none, 0⟩, [].toArray⟩) ::
  (nat_lit 844, ⟨.type "tuple", none, .seq [].toArray 0, [].toArray⟩) ::
  (nat_lit 846, ⟨.type "tuple", none, .seq [.str "_law_row" 1329, .str "_law_point" 1330, .str "_law_comma" 1331, .str "_law_blanks" 1332, .str "_law_sign" 1333, .str "_law_ahead" 1334].toArray 0, [].toArray⟩) ::
  (nat_lit 847, ⟨.type "tuple", none, .seq [].toArray 0, [].toArray⟩) ::
  (nat_lit 849, ⟨.type "code", none, .fields [.str "_law_parts" 1326, .str "_law_parts" 1327, .str "/claim/cut.py" 1328, .int 512 0, .int 1 0, .int 0 0, .int 0 0, .int 3 0, .ref 844, .bool true, .int 181 0, .ref 845, .none, .ref 846, .ref 847, .ref 848, .int 1335 0, .int 512 0, .str "/claim/cut.py" 1336].toArray, [].toArray⟩) ::
  (nat_lit 850, ⟨.type "function", none, .func ⟨"_law_parts", "_law_parts", fA (top 119), .stmts (fB (top 119)), fS (top 119), 3, [], .none, .none, .none, .str "law_readersapart_k02_no_readers" 1314, none, .ref 849, .none, 0⟩, [].toArray⟩) ::
  (nat_lit 851, ⟨.type "tuple", none, .seq [].toArray 0, [].toArray⟩) ::
  (nat_lit 853, ⟨.type "tuple", none, .seq [.str "_law_told_here" 1341, .str "_law_point" 1342, .str "_law_comma" 1343, .str "_law_rest" 1344, .str "_law_must" 1345, .str "_law_sign" 1346, .str "_law_zeros" 1347, .str "_law_blanks" 1348, .str "_law_exponent" 1349].toArray 0, [].toArray⟩) ::
  (nat_lit 854, ⟨.type "tuple", none, .seq [].toArray 0, [].toArray⟩) ::
  (nat_lit 856, ⟨.type "code", none, .fields [.str "_law_made" 1338, .str "_law_made" 1339, .str "/claim/cut.py" 1340, .int 521 0, .int 1 0, .int 0 0, .int 0 0, .int 3 0, .ref 851, .bool true, .int 181 0, .ref 852, .none, .ref 853, .ref 854, .ref 855, .int 1350 0, .int 521 0, .str "/claim/cut.py" 1351].toArray, [].toArray⟩) ::
  (nat_lit 857, ⟨.type "function", none, .func ⟨"_law_made", "_law_made", fA (top 120), .stmts (fB (top 120)), fS (top 120), 3, [], .none, .none, .none, .str "law_readersapart_k02_no_readers" 1314, none, .ref 856, .none, 0⟩, [].toArray⟩) ::
  (nat_lit 858, ⟨.type "tuple", none, .seq [].toArray 0, [].toArray⟩) ::
  (nat_lit 860, ⟨.type "tuple", none, .seq [.str "_law_row" 1356, .str "_law_told_here" 1357].toArray 0, [].toArray⟩) ::
  (nat_lit 861, ⟨.type "tuple", none, .seq [].toArray 0, [].toArray⟩) ::
  (nat_lit 863, ⟨.type "code", none, .fields [.str "_law_odd_reader" 1353, .str "_law_odd_reader" 1354, .str "/claim/cut.py" 1355, .int 524 0, .int 1 0, .int 0 0, .int 0 0, .int 3 0, .ref 858, .bool true, .int 181 0, .ref 859, .none, .ref 860, .ref 861, .ref 862, .int 1358 0, .int 524 0, .str "/claim/cut.py" 1359].toArray, [].toArray⟩) ::
  (nat_lit 864, ⟨.type "function", none, .func ⟨"_law_odd_reader", "_law_odd_reader", fA (top 121), .stmts (fB (top 121)), fS (top 121), 3, [], .none, .none, .none, .str "law_readersapart_k02_no_readers" 1314, none, .ref 863, .none, 0⟩, [].toArray⟩) ::
  (nat_lit 865, ⟨.type "tuple", none, .seq [].toArray 0, [].toArray⟩) ::
  (nat_lit 867, ⟨.type "tuple", none, .seq [.str "_law_kind" 1364, .str "_law_value" 1365, .str "_law_good" 1366].toArray 0, [].toArray⟩) ::
  (nat_lit 868, ⟨.type "tuple", none, .seq [].toArray 0, [].toArray⟩) ::
  (nat_lit 870, ⟨.type "code", none, .fields [.str "_law_call" 1361, .str "_law_call" 1362, .str "/claim/cut.py" 1363, .int 527 0, .int 2 0, .int 0 0, .int 0 0, .int 3 0, .ref 865, .bool true, .int 181 0, .ref 866, .none, .ref 867, .ref 868, .ref 869, .int 1367 0, .int 527 0, .str "/claim/cut.py" 1368].toArray, [].toArray⟩) ::
  (nat_lit 871, ⟨.type "function", none, .func ⟨"_law_call", "_law_call", fA (top 122), .stmts (fB (top 122)), fS (top 122), 3, [], .none, .none, .none, .str "law_readersapart_k02_no_readers" 1314, none, .ref 870, .none, 0⟩, [].toArray⟩) ::
  (nat_lit 872, ⟨.type "tuple", none, .seq [].toArray 0, [].toArray⟩) ::
  (nat_lit 874, ⟨.type "tuple", none, .seq [.str "_law_kind" 1373, .str "_law_value" 1374, .str "_law_raised" 1375].toArray 0, [].toArray⟩) ::
  (nat_lit 875, ⟨.type "tuple", none, .seq [].toArray 0, [].toArray⟩) ::
  (nat_lit 877, ⟨.type "code", none, .fields [.str "_law_told" 1370, .str "_law_told" 1371, .str "/claim/cut.py" 1372, .int 541 0, .int 2 0, .int 0 0, .int 0 0, .int 3 0, .ref 872, .bool true, .int 181 0, .ref 873, .none, .ref 874, .ref 875, .ref 876, .int 1376 0, .int 541 0, .str "/claim/cut.py" 1377].toArray, [].toArray⟩) ::
  (nat_lit 878, ⟨.type "function", none, .func ⟨"_law_told", "_law_told", fA (top 123), .stmts (fB (top 123)), fS (top 123), 3, [], .none, .none, .none, .str "law_readersapart_k02_no_readers" 1314, none, .ref 877, .none, 0⟩, [].toArray⟩) ::
  (nat_lit 879, ⟨.type "tuple", none, .seq [].toArray 0, [].toArray⟩) ::
  (nat_lit 881, ⟨.type "tuple", none, .seq [.str "_law_kind" 1382, .str "_law_value" 1383, .str "_law_found" 1384, .str "e" 1385].toArray 0, [].toArray⟩) ::
  (nat_lit 882, ⟨.type "tuple", none, .seq [].toArray 0, [].toArray⟩) ::
  (nat_lit 884, ⟨.type "code", none, .fields [.str "_law_lot" 1379, .str "_law_lot" 1380, .str "/claim/cut.py" 1381, .int 548 0, .int 2 0, .int 0 0, .int 0 0, .int 3 0, .ref 879, .bool true, .int 181 0, .ref 880, .none, .ref 881, .ref 882, .ref 883, .int 1386 0, .int 548 0, .str "/claim/cut.py" 1387].toArray, [].toArray⟩) ::
  (nat_lit 885, ⟨.type "function", none, .func ⟨"_law_lot", "_law_lot", fA (top 124), .stmts (fB (top 124)), fS (top 124), 3, [], .none, .none, .none, .str "law_readersapart_k02_no_readers" 1314, none, .ref 884, .none, 0⟩, [].toArray⟩) ::
  (nat_lit 886, ⟨.type "tuple", none, .seq [].toArray 0, [].toArray⟩) ::
  (nat_lit 888, ⟨.type "tuple", none, .seq [.str "_law_script" 1392, .str "_law_row" 1393, .str "_law_turn" 1394, .str "_law_bad" 1395, .str "_law_good" 1396, .str "_law_at" 1397].toArray 0, [].toArray⟩) ::
  (nat_lit 889, ⟨.type "tuple", none, .seq [].toArray 0, [].toArray⟩) ::
  (nat_lit 891, ⟨.type "code", none, .fields [.str "law" 1389, .str "law" 1390, .str "/claim/cut.py" 1391, .int 560 0, .int 1 0, .int 0 0, .int 0 0, .int 3 0, .ref 886, .bool true, .int 181 0, .ref 887, .none, .ref 888, .ref 889, .ref 890, .int 1398 0, .int 560 0, .str "/claim/cut.py" 1399].toArray, [].toArray⟩) ::
  (nat_lit 892, ⟨.type "function", none, .func ⟨"law", "law", fA (top 125), .stmts (fB (top 125)), fS (top 125), 3, [], .none, .none, .none, .str "law_readersapart_k02_no_readers" 1314, none, .ref 891, .none, 0⟩, [].toArray⟩) :: []
def as0 : List Addr := [2, 3, 15, 17, 18, 20, 21, 22, 29, 30, 31, 32, 35, 38, 43, 44, 46, 47, 49, 50, 51, 52, 53, 56, 63, 64, 65, 68, 71, 76]
def as1 : List Addr := [77, 79, 80, 82, 83, 84, 85, 86, 89, 96, 97, 98, 101, 104, 109, 110, 112, 113, 115, 116, 117, 118, 119, 122, 125, 130, 131, 133, 134, 136]
def as2 : List Addr := [137, 138, 139, 140, 143, 150, 151, 152, 155, 162, 163, 164, 167, 168, 169, 170, 171, 172, 173, 174, 175, 176, 177, 178, 179, 180, 181, 182, 183, 191]
def as3 : List Addr := [193, 194, 196, 197, 198, 200, 201, 203, 204, 205, 207, 208, 210, 211, 212, 213, 215, 216, 218, 219, 220, 221, 223, 224, 226, 227, 228, 229, 231, 232]
def as4 : List Addr := [234, 235, 236, 237, 239, 240, 242, 243, 244, 245, 247, 248, 250, 251, 252, 253, 255, 256, 258, 259, 260, 261, 263, 264, 266, 267, 268, 269, 270, 271]
def as5 : List Addr := [272, 273, 276, 278, 279, 281, 282, 283, 285, 286, 288, 289, 290, 292, 293, 295, 296, 297, 299, 300, 302, 303, 304, 307, 308, 309, 311, 312, 314, 315]
def as6 : List Addr := [316, 318, 319, 321, 322, 323, 325, 326, 328, 329, 330, 332, 333, 335, 336, 337, 339, 340, 342, 343, 344, 346, 347, 349, 350, 351, 353, 354, 356, 357]
def as7 : List Addr := [358, 360, 361, 363, 364, 365, 366, 367, 368, 369, 370, 371, 372, 373, 374, 375, 377, 378, 380, 381, 382, 384, 385, 387, 388, 389, 391, 392, 394, 395]
def as8 : List Addr := [396, 398, 399, 401, 402, 403, 405, 406, 408, 409, 410, 412, 413, 415, 416, 417, 419, 420, 422, 423, 424, 426, 427, 429, 430, 431, 433, 434, 436, 437]
def as9 : List Addr := [438, 440, 441, 443, 444, 445, 447, 448, 450, 451, 452, 454, 455, 457, 458, 459, 461, 462, 464, 465, 466, 468, 469, 471, 472, 473, 475, 476, 478, 479]
def as10 : List Addr := [480, 482, 483, 485, 486, 487, 489, 490, 492, 493, 494, 496, 497, 499, 500, 501, 502, 503, 504, 505, 506, 507, 508, 509, 510, 512, 513, 515, 516, 517]
def as11 : List Addr := [519, 520, 522, 523, 524, 526, 527, 529, 530, 531, 534, 535, 536, 539, 540, 541, 543, 544, 546, 547, 548, 550, 551, 553, 554, 555, 558, 559, 560, 563]
def as12 : List Addr := [564, 565, 567, 568, 570, 571, 572, 575, 576, 577, 579, 580, 582, 583, 584, 586, 587, 589, 590, 591, 594, 595, 596, 598, 599, 601, 602, 603, 606, 607]
def as13 : List Addr := [608, 611, 612, 613, 616, 617, 618, 621, 622, 630, 632, 633, 635, 636, 637, 639, 640, 642, 643, 644, 646, 647, 649, 650, 651, 652, 655, 656, 657, 658]
def as14 : List Addr := [660, 661, 663, 664, 665, 668, 669, 670, 673, 674, 675, 677, 678, 680, 681, 682, 684, 685, 687, 688, 689, 690, 691, 692, 693, 696, 698, 699, 701, 702]
def as15 : List Addr := [703, 705, 706, 708, 709, 710, 712, 713, 715, 716, 717, 719, 720, 722, 723, 724, 727, 728, 729, 732, 733, 734, 736, 737, 739, 740, 741, 743, 744, 746]
def as16 : List Addr := [747, 748, 750, 751, 753, 754, 755, 757, 758, 760, 761, 762, 763, 764, 767, 768, 769, 771, 772, 774, 775, 776, 778, 779, 781, 782, 783, 785, 786, 788]
def as17 : List Addr := [789, 790, 793, 794, 795, 797, 798, 800, 801, 802, 804, 805, 807, 808, 809, 811, 812, 814, 815, 816, 818, 819, 821, 822, 823, 825, 826, 828, 829, 830]
def as18 : List Addr := [832, 833, 835, 836, 837, 839, 840, 842, 843, 844, 846, 847, 849, 850, 851, 853, 854, 856, 857, 858, 860, 861, 863, 864, 865, 867, 868, 870, 871, 872]
def as19 : List Addr := [874, 875, 877, 878, 879, 881, 882, 884, 885, 886, 888, 889, 891, 892]
def as : List Addr := as0 ++ (as1 ++ (as2 ++ (as3 ++ (as4 ++ (as5 ++ (as6 ++ (as7 ++ (as8 ++ (as9 ++ (as10 ++ (as11 ++ (as12 ++ (as13 ++ (as14 ++ (as15 ++ (as16 ++ (as17 ++ (as18 ++ (as19)))))))))))))))))))
def nm0 : List PySem.Str := ["_wall", "__name__", "ReaderError", "BadPart", "BadReader", "BadReaders", "BadText", "BadTexts", "NotTaken", "BadNumber", "BadLength", "CHOICES", "MOST_READERS", "Reader", "parts"]
def nm1 : List PySem.Str := ["check_reader", "check_readers", "_first_wrong", "_is_among", "_clashes", "LONGEST", "MOST_TEXTS", "MOST_LENGTH", "MOST_WORTH", "MOST_POWER", "check_text", "check_texts", "check_length", "check_number", "is_number"]
def nm2 : List PySem.Str := ["is_plain_integer", "_is_text", "FIGURES", "START", "MINUS", "NOUGHT", "POINT", "FRACTION", "LETTER", "LESS", "TURNED", "END", "MANY", "BEFORE_FIGURES", "step"]
def nm3 : List PySem.Str := ["lacking", "_behind_figure", "_longer_plain", "_behind_comma", "_behind_minus", "_behind_letter", "_behind_blank", "_whole_ends", "_number_ends", "takes", "first_stop", "means", "number_if_taken", "number_of", "plain_number"]
def nm4 : List PySem.Str := ["_goes_through", "_around_point", "SIGNS", "least_text", "first_arrivals", "tally", "some_go_on", "all_go_on", "all_take", "are_unlike", "start_of", "moves_from", "_behind", "marks_of", "_mark"]
def nm5 : List PySem.Str := ["safety", "safety_of", "parting", "takers", "ways", "numbers_for", "_rows_of_numbers", "Column", "off", "alone", "two_numbers", "same", "count", "count_both", "_check_pair"]
def nm6 : List PySem.Str := ["_first_goes_on", "_just_first_takes", "_mean_two", "SIGN_WORDS", "FLAGS", "write", "_word", "written", "misread", "shortest", "text_of", "_short_texts", "_powers", "_signed", "_size"]
def nm7 : List PySem.Str := ["_in_groups", "_law_taken", "_law_parts", "_law_made", "_law_odd_reader", "_law_call", "_law_told", "_law_lot"]
def names : List PySem.Str := nm0 ++ (nm1 ++ (nm2 ++ (nm3 ++ (nm4 ++ (nm5 ++ (nm6 ++ (nm7)))))))
theorem as_eq (P : Params) : as = (heap P).map (·.1) := by kernel_rfl
def hk : Hook := kHook heap as as_eq
def ob (s : SharedT) : hk.α := as.map (HandSHeadRun.getT s)
theorem ob_eq (s : SharedT) : ob s = hk.obs s.abs := by
  show as.map (HandSHeadRun.getT s) = as.map s.abs.heap.get?
  congr 1
  funext a
  exact HandSHeadRun.getT_eq s a
abbrev qv : Program := view R.prog [125]
theorem run0 (w : World) : HandSHeadRun.RunEq R qv hk ob 6797 names (w.withFollow "special-get-raises" false) := by
  intro os
  kernel_rfl
theorem run1 (w : World) : HandSHeadRun.RunEq R qv hk ob 6797 names (w.withFollow "special-get-raises" true) := by
  intro os
  kernel_rfl
theorem run (w : World) : HandSHeadRun.RunEq R qv hk ob 6797 names w := byRow2 "special-get-raises" (P := fun w => HandSHeadRun.RunEq R qv hk ob 6797 names w) run0 run1 w
end RaHd

namespace Ra
open PySem L2 RaX
theorem all_mk {l : PySem.W.OpenLaw} {w : World} {K : PySem.W.Frag} {h : Heap} {mg : Str → Option Value} {fa : Addr} (X : K.In h) (G : h.Ns mainGlobals mg) (hfa : mg "law" = some (.ref fa)) (htop : (l.prog.main.scope.names.lookup ("super" : Str)).isSome = false)
    {C RE c0 : Addr}
    {C_BP fi_BP cda_BP cc_BP : Addr}
    {N_BP : Addr}
    {nm_BP qn_BP : Str}
    {bs_BP sub_BP : List Value}
    {sn_BP : List Str}
    {ab_BP : Bool}
    {col_BP : Option Bool}
    {dd_BP : Option Addr}
    {m0_BP m1_BP m2_BP m3_BP m5_BP : Option Value}
    {od_BP an_BP cdd_BP cld_BP : Option Addr}
    {oc_BP dc_BP pm_BP ct_BP ccl_BP cl_BP : Value}
    {sl_BP ccs_BP csl_BP : Array (Option Value)}
    {vs_BP : Array Value}
    {file_BP : Str}
    {tf_BP : Tok}
    {C_BR : Addr}
    {C_BRs fi_BRs cda_BRs cc_BRs : Addr}
    {N_BRs : Addr}
    {nm_BRs qn_BRs : Str}
    {bs_BRs sub_BRs : List Value}
    {sn_BRs : List Str}
    {ab_BRs : Bool}
    {col_BRs : Option Bool}
    {dd_BRs : Option Addr}
    {m0_BRs m1_BRs m2_BRs m3_BRs m5_BRs : Option Value}
    {od_BRs an_BRs cdd_BRs cld_BRs : Option Addr}
    {oc_BRs dc_BRs pm_BRs ct_BRs ccl_BRs cl_BRs : Value}
    {sl_BRs ccs_BRs csl_BRs : Array (Option Value)}
    {vs_BRs : Array Value}
    {file_BRs : Str}
    {tf_BRs : Tok}
    {f_init : Addr}
    {od_init an_init : Option Addr}
    {sl_init : Array (Option Value)}
    {oc_init kV_init dc_init pm_init cd_init ct_init : Value}
    {d0 : Option Addr}
    {z0 : Nat}
    {s0 : Array (Option Value)}
    {q0 q1 q2 q3 q4 q5 q6 q7 r_0 r_1 r_2 r_3 r_4 r_5 r_6 r_7 : Addr}
    {d1_0 d2_0 : Option Addr}
    {z1_0 z2_0 : Nat}
    {s1_0 s2_0 : Array (Option Value)}
    {t_0 t_0_0 t_0_1 t_0_2 : Tok}
    {d1_1 d2_1 : Option Addr}
    {z1_1 z2_1 : Nat}
    {s1_1 s2_1 : Array (Option Value)}
    {t_1 t_1_0 t_1_1 t_1_2 t_1_3 t_1_4 : Tok}
    {d1_2 d2_2 : Option Addr}
    {z1_2 z2_2 : Nat}
    {s1_2 s2_2 : Array (Option Value)}
    {t_2 t_2_0 t_2_1 : Tok}
    {d1_3 d2_3 : Option Addr}
    {z1_3 z2_3 : Nat}
    {s1_3 s2_3 : Array (Option Value)}
    {t_3 : Tok}
    {d1_4 d2_4 : Option Addr}
    {z1_4 z2_4 : Nat}
    {s1_4 s2_4 : Array (Option Value)}
    {t_4 t_4_0 t_4_1 t_4_2 : Tok}
    {d1_5 d2_5 : Option Addr}
    {z1_5 z2_5 : Nat}
    {s1_5 s2_5 : Array (Option Value)}
    {t_5 : Tok}
    {d1_6 d2_6 : Option Addr}
    {z1_6 z2_6 : Nat}
    {s1_6 s2_6 : Array (Option Value)}
    {t_6 : Tok}
    {d1_7 d2_7 : Option Addr}
    {z1_7 z2_7 : Nat}
    {s1_7 s2_7 : Array (Option Value)}
    {t_7 : Tok}
    {tc_MR : Tok}
    {f_taken : Addr}
    {od_taken an_taken : Option Addr}
    {sl_taken : Array (Option Value)}
    {oc_taken kV_taken dc_taken pm_taken cd_taken ct_taken : Value}
    {f_lparts : Addr}
    {od_lparts an_lparts : Option Addr}
    {sl_lparts : Array (Option Value)}
    {oc_lparts kV_lparts dc_lparts pm_lparts cd_lparts ct_lparts : Value}
    {f_made : Addr}
    {od_made an_made : Option Addr}
    {sl_made : Array (Option Value)}
    {oc_made kV_made dc_made pm_made cd_made ct_made : Value}
    {f_first : Addr}
    {od_first an_first : Option Addr}
    {sl_first : Array (Option Value)}
    {oc_first kV_first dc_first pm_first cd_first ct_first : Value}
    {f_among : Addr}
    {od_among an_among : Option Addr}
    {sl_among : Array (Option Value)}
    {oc_among kV_among dc_among pm_among cd_among ct_among : Value}
    {f_clash : Addr}
    {od_clash an_clash : Option Addr}
    {sl_clash : Array (Option Value)}
    {oc_clash kV_clash dc_clash pm_clash cd_clash ct_clash : Value}
    {f_cr : Addr}
    {od_cr an_cr : Option Addr}
    {sl_cr : Array (Option Value)}
    {oc_cr kV_cr dc_cr pm_cr cd_cr ct_cr : Value}
    {f_crs : Addr}
    {od_crs an_crs : Option Addr}
    {sl_crs : Array (Option Value)}
    {oc_crs kV_crs dc_crs pm_crs cd_crs ct_crs : Value}
    {f_pair : Addr}
    {od_pair an_pair : Option Addr}
    {sl_pair : Array (Option Value)}
    {oc_pair kV_pair dc_pair pm_pair cd_pair ct_pair : Value}
    {f_xparts : Addr}
    {od_xparts an_xparts : Option Addr}
    {sl_xparts : Array (Option Value)}
    {oc_xparts kV_xparts dc_xparts pm_xparts cd_xparts ct_xparts : Value}
    {f_xwrite : Addr}
    {od_xwrite an_xwrite : Option Addr}
    {sl_xwrite : Array (Option Value)}
    {oc_xwrite kV_xwrite dc_xwrite pm_xwrite cd_xwrite ct_xwrite : Value}
    {f_xfirst_stop : Addr}
    {od_xfirst_stop an_xfirst_stop : Option Addr}
    {sl_xfirst_stop : Array (Option Value)}
    {oc_xfirst_stop kV_xfirst_stop dc_xfirst_stop pm_xfirst_stop cd_xfirst_stop ct_xfirst_stop : Value}
    {f_xmeans : Addr}
    {od_xmeans an_xmeans : Option Addr}
    {sl_xmeans : Array (Option Value)}
    {oc_xmeans kV_xmeans dc_xmeans pm_xmeans cd_xmeans ct_xmeans : Value}
    {f_xtakes : Addr}
    {od_xtakes an_xtakes : Option Addr}
    {sl_xtakes : Array (Option Value)}
    {oc_xtakes kV_xtakes dc_xtakes pm_xtakes cd_xtakes ct_xtakes : Value}
    {f_xcount : Addr}
    {od_xcount an_xcount : Option Addr}
    {sl_xcount : Array (Option Value)}
    {oc_xcount kV_xcount dc_xcount pm_xcount cd_xcount ct_xcount : Value}
    {f_xwritten : Addr}
    {od_xwritten an_xwritten : Option Addr}
    {sl_xwritten : Array (Option Value)}
    {oc_xwritten kV_xwritten dc_xwritten pm_xwritten cd_xwritten ct_xwritten : Value}
    {f_xalone : Addr}
    {od_xalone an_xalone : Option Addr}
    {sl_xalone : Array (Option Value)}
    {oc_xalone kV_xalone dc_xalone pm_xalone cd_xalone ct_xalone : Value}
    {f_xsame : Addr}
    {od_xsame an_xsame : Option Addr}
    {sl_xsame : Array (Option Value)}
    {oc_xsame kV_xsame dc_xsame pm_xsame cd_xsame ct_xsame : Value}
    {f_xoff : Addr}
    {od_xoff an_xoff : Option Addr}
    {sl_xoff : Array (Option Value)}
    {oc_xoff kV_xoff dc_xoff pm_xoff cd_xoff ct_xoff : Value}
    {f_xtwo_numbers : Addr}
    {od_xtwo_numbers an_xtwo_numbers : Option Addr}
    {sl_xtwo_numbers : Array (Option Value)}
    {oc_xtwo_numbers kV_xtwo_numbers dc_xtwo_numbers pm_xtwo_numbers cd_xtwo_numbers ct_xtwo_numbers : Value}
    {f_xcount_both : Addr}
    {od_xcount_both an_xcount_both : Option Addr}
    {sl_xcount_both : Array (Option Value)}
    {oc_xcount_both kV_xcount_both dc_xcount_both pm_xcount_both cd_xcount_both ct_xcount_both : Value}
    {f_xmisread : Addr}
    {od_xmisread an_xmisread : Option Addr}
    {sl_xmisread : Array (Option Value)}
    {oc_xmisread kV_xmisread dc_xmisread pm_xmisread cd_xmisread ct_xmisread : Value}
    {f_xparting : Addr}
    {od_xparting an_xparting : Option Addr}
    {sl_xparting : Array (Option Value)}
    {oc_xparting kV_xparting dc_xparting pm_xparting cd_xparting ct_xparting : Value}
    {f_xsafety : Addr}
    {od_xsafety an_xsafety : Option Addr}
    {sl_xsafety : Array (Option Value)}
    {oc_xsafety kV_xsafety dc_xsafety pm_xsafety cd_xsafety ct_xsafety : Value}
    {f_xshortest : Addr}
    {od_xshortest an_xshortest : Option Addr}
    {sl_xshortest : Array (Option Value)}
    {oc_xshortest kV_xshortest dc_xshortest pm_xshortest cd_xshortest ct_xshortest : Value}
    {f_xtakers : Addr}
    {od_xtakers an_xtakers : Option Addr}
    {sl_xtakers : Array (Option Value)}
    {oc_xtakers kV_xtakers dc_xtakers pm_xtakers cd_xtakers ct_xtakers : Value}
    {f_xways : Addr}
    {od_xways an_xways : Option Addr}
    {sl_xways : Array (Option Value)}
    {oc_xways kV_xways dc_xways pm_xways cd_xways ct_xways : Value}
    {f_x_rows_of_numbers : Addr}
    {od_x_rows_of_numbers an_x_rows_of_numbers : Option Addr}
    {sl_x_rows_of_numbers : Array (Option Value)}
    {oc_x_rows_of_numbers kV_x_rows_of_numbers dc_x_rows_of_numbers pm_x_rows_of_numbers cd_x_rows_of_numbers ct_x_rows_of_numbers : Value}
    {f_od : Addr}
    {od_od an_od : Option Addr}
    {sl_od : Array (Option Value)}
    {oc_od kV_od dc_od pm_od cd_od ct_od : Value}
    {f_lc : Addr}
    {od_lc an_lc : Option Addr}
    {sl_lc : Array (Option Value)}
    {oc_lc kV_lc dc_lc pm_lc cd_lc ct_lc : Value}
    {f_lt : Addr}
    {od_lt an_lt : Option Addr}
    {sl_lt : Array (Option Value)}
    {oc_lt kV_lt dc_lt pm_lt cd_lt ct_lt : Value}
    {f_ll : Addr}
    {od_ll an_ll : Option Addr}
    {sl_ll : Array (Option Value)}
    {oc_ll kV_ll dc_ll pm_ll cd_ll ct_ll : Value}
    {CC : Addr}
    {f_cin : Addr}
    {od_cin an_cin : Option Addr}
    {sl_cin : Array (Option Value)}
    {oc_cin kV_cin dc_cin pm_cin cd_cin ct_cin : Value}
    {f_law : Addr}
    {od_law an_law : Option Addr}
    {sl_law : Array (Option Value)}
    {oc_law kV_law dc_law pm_law cd_law ct_law : Value}
    (a_RE : PySem.W.nsIn K mainGlobals "ReaderError" = some (some (.ref RE)))
    (ops : PySem.W.nsIn K PySem.cStatics "thirdparty.any" = some none)
    (n_int : PySem.W.nsIn K mainGlobals "int" = some none)
    (n_len : PySem.W.nsIn K mainGlobals "len" = some none)
    (n_isinstance : PySem.W.nsIn K mainGlobals "isinstance" = some none)
    (n_bool : PySem.W.nsIn K mainGlobals "bool" = some none)
    (n_any : PySem.W.nsIn K mainGlobals "any" = some none)
    (n_zip : PySem.W.nsIn K mainGlobals "zip" = some none)
    (n_range : PySem.W.nsIn K mainGlobals "range" = some none)
    (n_list : PySem.W.nsIn K mainGlobals "list" = some none)
    (n_tuple : PySem.W.nsIn K mainGlobals "tuple" = some none)
    (n_min : PySem.W.nsIn K mainGlobals "min" = some none)
    (n_max : PySem.W.nsIn K mainGlobals "max" = some none)
    (n_str : PySem.W.nsIn K mainGlobals "str" = some none)
    (n_enumerate : PySem.W.nsIn K mainGlobals "enumerate" = some none)
    (n_all : PySem.W.nsIn K mainGlobals "all" = some none)
    (n_set : PySem.W.nsIn K mainGlobals "set" = some none)
    (n_sum : PySem.W.nsIn K mainGlobals "sum" = some none)
    (n_abs : PySem.W.nsIn K mainGlobals "abs" = some none)
    (n_sorted : PySem.W.nsIn K mainGlobals "sorted" = some none)
    (n_dict : PySem.W.nsIn K mainGlobals "dict" = some none)
    (n_reversed : PySem.W.nsIn K mainGlobals "reversed" = some none)
    (n_super : PySem.W.nsIn K mainGlobals "super" = some none)
    (a_Rd : PySem.W.nsIn K mainGlobals "Reader" = some (some (.ref C)))
    (a_BP : PySem.W.nsIn K mainGlobals "BadPart" = some (some (.ref C_BP)))
    (x_BP : K.lookup C_BP = some (excClassObj nm_BP qn_BP C_BP N_BP bs_BP [.ref RE, .type "ValueError", .type "Exception", .type "BaseException", .type "object"] true sn_BP sub_BP ab_BP col_BP dd_BP m0_BP m1_BP m2_BP m3_BP m5_BP "ValueError.__new__"))
    (al_BP : PySem.W.alongIn K "__init__" [.ref RE, .type "ValueError", .type "Exception", .type "BaseException", .type "object"] = some (some (.builtin "ValueError.__init__")))
    (sa_BP : PySem.W.findIn K (.ref C_BP) "__setattr__" = some (some (.builtin "object.__setattr__")))
    (ga_BP : PySem.W.findIn K (.ref C_BP) "__getattribute__" = some (some (.builtin "BaseException.__getattribute__")))
    (gg_BP : PySem.W.findIn K (.ref C_BP) "__getattr__" = some none)
    (nn_BP : PySem.W.findIn K (.ref C_BP) "part" = some none)
    (ii_BP : PySem.W.findIn K (.ref C_BP) "__init__" = some (some (.ref fi_BP)))
    (ti_BP : PySem.W.typeIn K (.ref fi_BP) = some (.type "function"))
    (kc_BP : PySem.W.keepIn K (.ref C_BP) = true)
    (eb_BP : PySem.W.subIn K (.ref C_BP) (.type "BaseException") = some true)
    (ev_BP : PySem.W.subIn K (.ref C_BP) (.type "ValueError") = some true)
    (et_BP : PySem.W.typeIn K (.ref C_BP) = some (.type "type"))
    (hd_BP : PySem.W.hasDictIn K C_BP = true)
    (ow_BP : PySem.W.mroIn K C_BP (.ref C_BP) = some true)
    (ic_BP : PySem.W.isClsIn K C_BP = true)
    (se_BP : PySem.W.subIn K (.ref C_BP) (.ref C_BP) = some true)
    (l_BP : K.lookup fi_BP = some ⟨oc_BP, od_BP, .func (PySem.W.ksFn "__init__" "BadPart.__init__" (RaX.iA "part" ⟨9, 17, 9, 21⟩ ⟨9, 23, 9, 27⟩) (RaX.iB "part" "a reader cannot have this as its part " ⟨⟨10, 8, 10, 13⟩, ⟨10, 8, 10, 15⟩, ⟨10, 8, 10, 24⟩, ⟨10, 27, 10, 65⟩, ⟨10, 66, 10, 70⟩, ⟨10, 65, 10, 71⟩, ⟨10, 25, 10, 72⟩, ⟨10, 8, 10, 73⟩, ⟨10, 8, 10, 73⟩, ⟨11, 8, 11, 12⟩, ⟨11, 8, 11, 17⟩, ⟨11, 20, 11, 24⟩, ⟨11, 8, 11, 24⟩⟩) (RaX.iS "part") .none .none dc_BP pm_BP an_BP (.ref cda_BP) ct_BP cc_BP), sl_BP⟩)
    (cd_BP : PySem.W.codeIn K (.ref cda_BP) "BadPart.__init__" = true)
    (lc_BP : K.lookup cda_BP = some ⟨ccl_BP, cdd_BP, .fields vs_BP, ccs_BP⟩)
    (v2_BP : vs_BP[2]? = some (.str file_BP tf_BP))
    (fi_BPe : ((l.prog).main.file == file_BP) = true)
    (lz_BP : K.lookup cc_BP = some ⟨cl_BP, cld_BP, .cell (some (.ref C_BP)), csl_BP⟩)
    (a_BR : PySem.W.nsIn K mainGlobals "BadReader" = some (some (.ref C_BR)))
    (kc_BR : PySem.W.keepIn K (.ref C_BR) = true)
    (q_BR : PySem.W.excIn K C_BR [.type "ValueError", .type "Exception", .type "BaseException", .type "object"] "ValueError.__new__" = true)
    (eb_BR : PySem.W.subIn K (.ref C_BR) (.type "BaseException") = some true)
    (et_BR : PySem.W.typeIn K (.ref C_BR) = some (.type "type"))
    (ic_BR : PySem.W.isClsIn K C_BR = true)
    (se_BR : PySem.W.subIn K (.ref C_BR) (.ref C_BR) = some true)
    (a_BRs : PySem.W.nsIn K mainGlobals "BadReaders" = some (some (.ref C_BRs)))
    (x_BRs : K.lookup C_BRs = some (excClassObj nm_BRs qn_BRs C_BRs N_BRs bs_BRs [.ref RE, .type "ValueError", .type "Exception", .type "BaseException", .type "object"] true sn_BRs sub_BRs ab_BRs col_BRs dd_BRs m0_BRs m1_BRs m2_BRs m3_BRs m5_BRs "ValueError.__new__"))
    (al_BRs : PySem.W.alongIn K "__init__" [.ref RE, .type "ValueError", .type "Exception", .type "BaseException", .type "object"] = some (some (.builtin "ValueError.__init__")))
    (sa_BRs : PySem.W.findIn K (.ref C_BRs) "__setattr__" = some (some (.builtin "object.__setattr__")))
    (ga_BRs : PySem.W.findIn K (.ref C_BRs) "__getattribute__" = some (some (.builtin "BaseException.__getattribute__")))
    (gg_BRs : PySem.W.findIn K (.ref C_BRs) "__getattr__" = some none)
    (nn_BRs : PySem.W.findIn K (.ref C_BRs) "index" = some none)
    (ii_BRs : PySem.W.findIn K (.ref C_BRs) "__init__" = some (some (.ref fi_BRs)))
    (ti_BRs : PySem.W.typeIn K (.ref fi_BRs) = some (.type "function"))
    (kc_BRs : PySem.W.keepIn K (.ref C_BRs) = true)
    (eb_BRs : PySem.W.subIn K (.ref C_BRs) (.type "BaseException") = some true)
    (ev_BRs : PySem.W.subIn K (.ref C_BRs) (.type "ValueError") = some true)
    (et_BRs : PySem.W.typeIn K (.ref C_BRs) = some (.type "type"))
    (hd_BRs : PySem.W.hasDictIn K C_BRs = true)
    (ow_BRs : PySem.W.mroIn K C_BRs (.ref C_BRs) = some true)
    (ic_BRs : PySem.W.isClsIn K C_BRs = true)
    (se_BRs : PySem.W.subIn K (.ref C_BRs) (.ref C_BRs) = some true)
    (l_BRs : K.lookup fi_BRs = some ⟨oc_BRs, od_BRs, .func (PySem.W.ksFn "__init__" "BadReaders.__init__" (RaX.iA "index" ⟨16, 17, 16, 21⟩ ⟨16, 23, 16, 28⟩) (RaX.iB "index" "not 1 to 4 Readers: " ⟨⟨17, 8, 17, 13⟩, ⟨17, 8, 17, 15⟩, ⟨17, 8, 17, 24⟩, ⟨17, 27, 17, 47⟩, ⟨17, 48, 17, 53⟩, ⟨17, 47, 17, 54⟩, ⟨17, 25, 17, 55⟩, ⟨17, 8, 17, 56⟩, ⟨17, 8, 17, 56⟩, ⟨18, 8, 18, 12⟩, ⟨18, 8, 18, 18⟩, ⟨18, 21, 18, 26⟩, ⟨18, 8, 18, 26⟩⟩) (RaX.iS "index") .none .none dc_BRs pm_BRs an_BRs (.ref cda_BRs) ct_BRs cc_BRs), sl_BRs⟩)
    (cd_BRs : PySem.W.codeIn K (.ref cda_BRs) "BadReaders.__init__" = true)
    (lc_BRs : K.lookup cda_BRs = some ⟨ccl_BRs, cdd_BRs, .fields vs_BRs, ccs_BRs⟩)
    (v2_BRs : vs_BRs[2]? = some (.str file_BRs tf_BRs))
    (fi_BRse : ((l.prog).main.file == file_BRs) = true)
    (lz_BRs : K.lookup cc_BRs = some ⟨cl_BRs, cld_BRs, .cell (some (.ref C_BRs)), csl_BRs⟩)
    (xm_BRs_BRs : PySem.W.exmOne K (.ref C_BRs) (.ref C_BRs) = some true)
    (pg : PySem.W.plainGet K C Str.empty = true)
    (hd : PySem.W.hasDictIn K C = true)
    (po : PySem.W.plainOver K C = true)
    (sa : PySem.W.findIn K (.ref C) "__setattr__" = some (some (.builtin "object.__setattr__")))
    (mk : PySem.W.makesIn K C = true)
    (kc : PySem.W.keepIn K (.ref C) = true)
    (np : PySem.W.findIn K (.ref C) "_parts" = some none)
    (ha : PySem.W.findIn K (.ref C) "__class__" = some (some (.builtin "object.__class__")))
    (hn : PySem.W.specialIn K (.builtin "object.__class__") "__get__" = some (some (.builtin "getset_descriptor.__get__")))
    (htk : PySem.W.takesIn K (.builtin "object.__class__") = some true)
    (hm : PySem.W.mroIn K C (.type "object") = some true)
    (me : PySem.W.kitOne K (.ref C) (.ref C) = some true)
    (a_init : PySem.W.findIn K (.ref C) "__init__" = some (some (.ref f_init)))
    (i_init : PySem.W.isFn K (.ref f_init) = true)
    (l_init : K.lookup f_init = some ⟨oc_init, od_init, .func (PySem.W.fnOf "__init__" "Reader.__init__" (defArgs sInit) (defBody sInit) (defScope sInit) .none kV_init dc_init pm_init an_init cd_init ct_init), sl_init⟩)
    (c_init : PySem.W.codeIn K cd_init "Reader.__init__" = true)
    (k_init : PySem.W.keepIn K (.ref f_init) = true)
    (a_CH : PySem.W.nsIn K mainGlobals "CHOICES" = some (some (.ref c0)))
    (c_0 : K.lookup c0 = some ⟨.type "tuple", d0, .seq [.ref q0, .ref q1, .ref q2, .ref q3, .ref q4, .ref q5, .ref q6, .ref q7].toArray z0, s0⟩)
    (cq0 : K.lookup q0 = some ⟨.type "tuple", d1_0, .seq [.str "point" t_0, .ref r_0].toArray z1_0, s1_0⟩)
    (cr0 : K.lookup r_0 = some ⟨.type "tuple", d2_0, .seq [.str "." t_0_0, .str "," t_0_1, .str "" t_0_2].toArray z2_0, s2_0⟩)
    (cq1 : K.lookup q1 = some ⟨.type "tuple", d1_1, .seq [.str "comma" t_1, .ref r_1].toArray z1_1, s1_1⟩)
    (cr1 : K.lookup r_1 = some ⟨.type "tuple", d2_1, .seq [.str "." t_1_0, .str "," t_1_1, .str "'" t_1_2, .str " " t_1_3, .str "" t_1_4].toArray z2_1, s2_1⟩)
    (cq2 : K.lookup q2 = some ⟨.type "tuple", d1_2, .seq [.str "rest" t_2, .ref r_2].toArray z1_2, s1_2⟩)
    (cr2 : K.lookup r_2 = some ⟨.type "tuple", d2_2, .seq [.int 3 t_2_0, .int 2 t_2_1].toArray z2_2, s2_2⟩)
    (cq3 : K.lookup q3 = some ⟨.type "tuple", d1_3, .seq [.str "must" t_3, .ref r_3].toArray z1_3, s1_3⟩)
    (cr3 : K.lookup r_3 = some ⟨.type "tuple", d2_3, .seq [.bool false, .bool true].toArray z2_3, s2_3⟩)
    (cq4 : K.lookup q4 = some ⟨.type "tuple", d1_4, .seq [.str "sign" t_4, .ref r_4].toArray z1_4, s1_4⟩)
    (cr4 : K.lookup r_4 = some ⟨.type "tuple", d2_4, .seq [.str "none" t_4_0, .str "ahead" t_4_1, .str "behind" t_4_2].toArray z2_4, s2_4⟩)
    (cq5 : K.lookup q5 = some ⟨.type "tuple", d1_5, .seq [.str "zeros" t_5, .ref r_5].toArray z1_5, s1_5⟩)
    (cr5 : K.lookup r_5 = some ⟨.type "tuple", d2_5, .seq [.bool false, .bool true].toArray z2_5, s2_5⟩)
    (cq6 : K.lookup q6 = some ⟨.type "tuple", d1_6, .seq [.str "blanks" t_6, .ref r_6].toArray z1_6, s1_6⟩)
    (cr6 : K.lookup r_6 = some ⟨.type "tuple", d2_6, .seq [.bool false, .bool true].toArray z2_6, s2_6⟩)
    (cq7 : K.lookup q7 = some ⟨.type "tuple", d1_7, .seq [.str "exponent" t_7, .ref r_7].toArray z1_7, s1_7⟩)
    (cr7 : K.lookup r_7 = some ⟨.type "tuple", d2_7, .seq [.bool false, .bool true].toArray z2_7, s2_7⟩)
    (no_non : PySem.W.kitOne K (.type "NoneType") (.ref C) = some false)
    (no_int : PySem.W.kitOne K (.type "int") (.ref C) = some false)
    (no_bl : PySem.W.kitOne K (.type "bool") (.ref C) = some false)
    (no_str : PySem.W.kitOne K (.type "str") (.ref C) = some false)
    (no_tup : PySem.W.kitOne K (.type "tuple") (.ref C) = some false)
    (no_lst : PySem.W.kitOne K (.type "list") (.ref C) = some false)
    (no_dct : PySem.W.kitOne K (.type "dict") (.ref C) = some false)
    (no_rl : PySem.W.kitOne K (.ref C) (.type "list") = some false)
    (no_rt : PySem.W.kitOne K (.ref C) (.type "tuple") = some false)
    (a_MR : PySem.W.nsIn K mainGlobals "MOST_READERS" = some (some (.int 4 tc_MR)))
    (a_taken : PySem.W.nsIn K mainGlobals "_law_taken" = some (some (.ref f_taken)))
    (l_taken : K.lookup f_taken = some ⟨oc_taken, od_taken, .func (PySem.W.fnOf "_law_taken" "_law_taken" (defArgs sTaken) (defBody sTaken) (defScope sTaken) .none kV_taken dc_taken pm_taken an_taken cd_taken ct_taken), sl_taken⟩)
    (c_taken : PySem.W.codeIn K cd_taken "_law_taken" = true)
    (k_taken : PySem.W.keepIn K (.ref f_taken) = true)
    (a_lparts : PySem.W.nsIn K mainGlobals "_law_parts" = some (some (.ref f_lparts)))
    (l_lparts : K.lookup f_lparts = some ⟨oc_lparts, od_lparts, .func (PySem.W.fnOf "_law_parts" "_law_parts" (defArgs sParts) (defBody sParts) (defScope sParts) .none kV_lparts dc_lparts pm_lparts an_lparts cd_lparts ct_lparts), sl_lparts⟩)
    (c_lparts : PySem.W.codeIn K cd_lparts "_law_parts" = true)
    (k_lparts : PySem.W.keepIn K (.ref f_lparts) = true)
    (a_made : PySem.W.nsIn K mainGlobals "_law_made" = some (some (.ref f_made)))
    (l_made : K.lookup f_made = some ⟨oc_made, od_made, .func (PySem.W.fnOf "_law_made" "_law_made" (defArgs sMade) (defBody sMade) (defScope sMade) .none kV_made dc_made pm_made an_made cd_made ct_made), sl_made⟩)
    (c_made : PySem.W.codeIn K cd_made "_law_made" = true)
    (k_made : PySem.W.keepIn K (.ref f_made) = true)
    (a_first : PySem.W.nsIn K mainGlobals "_first_wrong" = some (some (.ref f_first)))
    (l_first : K.lookup f_first = some ⟨oc_first, od_first, .func (PySem.W.fnOf "_first_wrong" "_first_wrong" (defArgs sFirst) (defBody sFirst) (defScope sFirst) .none kV_first dc_first pm_first an_first cd_first ct_first), sl_first⟩)
    (c_first : PySem.W.codeIn K cd_first "_first_wrong" = true)
    (k_first : PySem.W.keepIn K (.ref f_first) = true)
    (a_among : PySem.W.nsIn K mainGlobals "_is_among" = some (some (.ref f_among)))
    (l_among : K.lookup f_among = some ⟨oc_among, od_among, .func (PySem.W.fnOf "_is_among" "_is_among" (defArgs sAmong) (defBody sAmong) (defScope sAmong) .none kV_among dc_among pm_among an_among cd_among ct_among), sl_among⟩)
    (c_among : PySem.W.codeIn K cd_among "_is_among" = true)
    (k_among : PySem.W.keepIn K (.ref f_among) = true)
    (a_clash : PySem.W.nsIn K mainGlobals "_clashes" = some (some (.ref f_clash)))
    (l_clash : K.lookup f_clash = some ⟨oc_clash, od_clash, .func (PySem.W.fnOf "_clashes" "_clashes" (defArgs sClash) (defBody sClash) (defScope sClash) .none kV_clash dc_clash pm_clash an_clash cd_clash ct_clash), sl_clash⟩)
    (c_clash : PySem.W.codeIn K cd_clash "_clashes" = true)
    (k_clash : PySem.W.keepIn K (.ref f_clash) = true)
    (a_cr : PySem.W.nsIn K mainGlobals "check_reader" = some (some (.ref f_cr)))
    (l_cr : K.lookup f_cr = some ⟨oc_cr, od_cr, .func (PySem.W.fnOf "check_reader" "check_reader" (defArgs sChk) (defBody sChk) (defScope sChk) .none kV_cr dc_cr pm_cr an_cr cd_cr ct_cr), sl_cr⟩)
    (c_cr : PySem.W.codeIn K cd_cr "check_reader" = true)
    (k_cr : PySem.W.keepIn K (.ref f_cr) = true)
    (a_crs : PySem.W.nsIn K mainGlobals "check_readers" = some (some (.ref f_crs)))
    (l_crs : K.lookup f_crs = some ⟨oc_crs, od_crs, .func (PySem.W.fnOf "check_readers" "check_readers" (defArgs sCRs) (defBody sCRs) (defScope sCRs) .none kV_crs dc_crs pm_crs an_crs cd_crs ct_crs), sl_crs⟩)
    (c_crs : PySem.W.codeIn K cd_crs "check_readers" = true)
    (k_crs : PySem.W.keepIn K (.ref f_crs) = true)
    (a_pair : PySem.W.nsIn K mainGlobals "_check_pair" = some (some (.ref f_pair)))
    (l_pair : K.lookup f_pair = some ⟨oc_pair, od_pair, .func (PySem.W.fnOf "_check_pair" "_check_pair" (defArgs s_pair) (defBody s_pair) (defScope s_pair) .none kV_pair dc_pair pm_pair an_pair cd_pair ct_pair), sl_pair⟩)
    (c_pair : PySem.W.codeIn K cd_pair "_check_pair" = true)
    (k_pair : PySem.W.keepIn K (.ref f_pair) = true)
    (a_xparts : PySem.W.nsIn K mainGlobals "parts" = some (some (.ref f_xparts)))
    (l_xparts : K.lookup f_xparts = some ⟨oc_xparts, od_xparts, .func (PySem.W.fnOf "parts" "parts" (defArgs s_parts) (defBody s_parts) (defScope s_parts) .none kV_xparts dc_xparts pm_xparts an_xparts cd_xparts ct_xparts), sl_xparts⟩)
    (c_xparts : PySem.W.codeIn K cd_xparts "parts" = true)
    (k_xparts : PySem.W.keepIn K (.ref f_xparts) = true)
    (a_xwrite : PySem.W.nsIn K mainGlobals "write" = some (some (.ref f_xwrite)))
    (l_xwrite : K.lookup f_xwrite = some ⟨oc_xwrite, od_xwrite, .func (PySem.W.fnOf "write" "write" (defArgs s_write) (defBody s_write) (defScope s_write) .none kV_xwrite dc_xwrite pm_xwrite an_xwrite cd_xwrite ct_xwrite), sl_xwrite⟩)
    (c_xwrite : PySem.W.codeIn K cd_xwrite "write" = true)
    (k_xwrite : PySem.W.keepIn K (.ref f_xwrite) = true)
    (a_xfirst_stop : PySem.W.nsIn K mainGlobals "first_stop" = some (some (.ref f_xfirst_stop)))
    (l_xfirst_stop : K.lookup f_xfirst_stop = some ⟨oc_xfirst_stop, od_xfirst_stop, .func (PySem.W.fnOf "first_stop" "first_stop" (defArgs s_first_stop) (defBody s_first_stop) (defScope s_first_stop) .none kV_xfirst_stop dc_xfirst_stop pm_xfirst_stop an_xfirst_stop cd_xfirst_stop ct_xfirst_stop), sl_xfirst_stop⟩)
    (c_xfirst_stop : PySem.W.codeIn K cd_xfirst_stop "first_stop" = true)
    (k_xfirst_stop : PySem.W.keepIn K (.ref f_xfirst_stop) = true)
    (a_xmeans : PySem.W.nsIn K mainGlobals "means" = some (some (.ref f_xmeans)))
    (l_xmeans : K.lookup f_xmeans = some ⟨oc_xmeans, od_xmeans, .func (PySem.W.fnOf "means" "means" (defArgs s_means) (defBody s_means) (defScope s_means) .none kV_xmeans dc_xmeans pm_xmeans an_xmeans cd_xmeans ct_xmeans), sl_xmeans⟩)
    (c_xmeans : PySem.W.codeIn K cd_xmeans "means" = true)
    (k_xmeans : PySem.W.keepIn K (.ref f_xmeans) = true)
    (a_xtakes : PySem.W.nsIn K mainGlobals "takes" = some (some (.ref f_xtakes)))
    (l_xtakes : K.lookup f_xtakes = some ⟨oc_xtakes, od_xtakes, .func (PySem.W.fnOf "takes" "takes" (defArgs s_takes) (defBody s_takes) (defScope s_takes) .none kV_xtakes dc_xtakes pm_xtakes an_xtakes cd_xtakes ct_xtakes), sl_xtakes⟩)
    (c_xtakes : PySem.W.codeIn K cd_xtakes "takes" = true)
    (k_xtakes : PySem.W.keepIn K (.ref f_xtakes) = true)
    (a_xcount : PySem.W.nsIn K mainGlobals "count" = some (some (.ref f_xcount)))
    (l_xcount : K.lookup f_xcount = some ⟨oc_xcount, od_xcount, .func (PySem.W.fnOf "count" "count" (defArgs s_count) (defBody s_count) (defScope s_count) .none kV_xcount dc_xcount pm_xcount an_xcount cd_xcount ct_xcount), sl_xcount⟩)
    (c_xcount : PySem.W.codeIn K cd_xcount "count" = true)
    (k_xcount : PySem.W.keepIn K (.ref f_xcount) = true)
    (a_xwritten : PySem.W.nsIn K mainGlobals "written" = some (some (.ref f_xwritten)))
    (l_xwritten : K.lookup f_xwritten = some ⟨oc_xwritten, od_xwritten, .func (PySem.W.fnOf "written" "written" (defArgs s_written) (defBody s_written) (defScope s_written) .none kV_xwritten dc_xwritten pm_xwritten an_xwritten cd_xwritten ct_xwritten), sl_xwritten⟩)
    (c_xwritten : PySem.W.codeIn K cd_xwritten "written" = true)
    (k_xwritten : PySem.W.keepIn K (.ref f_xwritten) = true)
    (a_xalone : PySem.W.nsIn K mainGlobals "alone" = some (some (.ref f_xalone)))
    (l_xalone : K.lookup f_xalone = some ⟨oc_xalone, od_xalone, .func (PySem.W.fnOf "alone" "alone" (defArgs s_alone) (defBody s_alone) (defScope s_alone) .none kV_xalone dc_xalone pm_xalone an_xalone cd_xalone ct_xalone), sl_xalone⟩)
    (c_xalone : PySem.W.codeIn K cd_xalone "alone" = true)
    (k_xalone : PySem.W.keepIn K (.ref f_xalone) = true)
    (a_xsame : PySem.W.nsIn K mainGlobals "same" = some (some (.ref f_xsame)))
    (l_xsame : K.lookup f_xsame = some ⟨oc_xsame, od_xsame, .func (PySem.W.fnOf "same" "same" (defArgs s_same) (defBody s_same) (defScope s_same) .none kV_xsame dc_xsame pm_xsame an_xsame cd_xsame ct_xsame), sl_xsame⟩)
    (c_xsame : PySem.W.codeIn K cd_xsame "same" = true)
    (k_xsame : PySem.W.keepIn K (.ref f_xsame) = true)
    (a_xoff : PySem.W.nsIn K mainGlobals "off" = some (some (.ref f_xoff)))
    (l_xoff : K.lookup f_xoff = some ⟨oc_xoff, od_xoff, .func (PySem.W.fnOf "off" "off" (defArgs s_off) (defBody s_off) (defScope s_off) .none kV_xoff dc_xoff pm_xoff an_xoff cd_xoff ct_xoff), sl_xoff⟩)
    (c_xoff : PySem.W.codeIn K cd_xoff "off" = true)
    (k_xoff : PySem.W.keepIn K (.ref f_xoff) = true)
    (a_xtwo_numbers : PySem.W.nsIn K mainGlobals "two_numbers" = some (some (.ref f_xtwo_numbers)))
    (l_xtwo_numbers : K.lookup f_xtwo_numbers = some ⟨oc_xtwo_numbers, od_xtwo_numbers, .func (PySem.W.fnOf "two_numbers" "two_numbers" (defArgs s_two_numbers) (defBody s_two_numbers) (defScope s_two_numbers) .none kV_xtwo_numbers dc_xtwo_numbers pm_xtwo_numbers an_xtwo_numbers cd_xtwo_numbers ct_xtwo_numbers), sl_xtwo_numbers⟩)
    (c_xtwo_numbers : PySem.W.codeIn K cd_xtwo_numbers "two_numbers" = true)
    (k_xtwo_numbers : PySem.W.keepIn K (.ref f_xtwo_numbers) = true)
    (a_xcount_both : PySem.W.nsIn K mainGlobals "count_both" = some (some (.ref f_xcount_both)))
    (l_xcount_both : K.lookup f_xcount_both = some ⟨oc_xcount_both, od_xcount_both, .func (PySem.W.fnOf "count_both" "count_both" (defArgs s_count_both) (defBody s_count_both) (defScope s_count_both) .none kV_xcount_both dc_xcount_both pm_xcount_both an_xcount_both cd_xcount_both ct_xcount_both), sl_xcount_both⟩)
    (c_xcount_both : PySem.W.codeIn K cd_xcount_both "count_both" = true)
    (k_xcount_both : PySem.W.keepIn K (.ref f_xcount_both) = true)
    (a_xmisread : PySem.W.nsIn K mainGlobals "misread" = some (some (.ref f_xmisread)))
    (l_xmisread : K.lookup f_xmisread = some ⟨oc_xmisread, od_xmisread, .func (PySem.W.fnOf "misread" "misread" (defArgs s_misread) (defBody s_misread) (defScope s_misread) .none kV_xmisread dc_xmisread pm_xmisread an_xmisread cd_xmisread ct_xmisread), sl_xmisread⟩)
    (c_xmisread : PySem.W.codeIn K cd_xmisread "misread" = true)
    (k_xmisread : PySem.W.keepIn K (.ref f_xmisread) = true)
    (a_xparting : PySem.W.nsIn K mainGlobals "parting" = some (some (.ref f_xparting)))
    (l_xparting : K.lookup f_xparting = some ⟨oc_xparting, od_xparting, .func (PySem.W.fnOf "parting" "parting" (defArgs s_parting) (defBody s_parting) (defScope s_parting) .none kV_xparting dc_xparting pm_xparting an_xparting cd_xparting ct_xparting), sl_xparting⟩)
    (c_xparting : PySem.W.codeIn K cd_xparting "parting" = true)
    (k_xparting : PySem.W.keepIn K (.ref f_xparting) = true)
    (a_xsafety : PySem.W.nsIn K mainGlobals "safety" = some (some (.ref f_xsafety)))
    (l_xsafety : K.lookup f_xsafety = some ⟨oc_xsafety, od_xsafety, .func (PySem.W.fnOf "safety" "safety" (defArgs s_safety) (defBody s_safety) (defScope s_safety) .none kV_xsafety dc_xsafety pm_xsafety an_xsafety cd_xsafety ct_xsafety), sl_xsafety⟩)
    (c_xsafety : PySem.W.codeIn K cd_xsafety "safety" = true)
    (k_xsafety : PySem.W.keepIn K (.ref f_xsafety) = true)
    (a_xshortest : PySem.W.nsIn K mainGlobals "shortest" = some (some (.ref f_xshortest)))
    (l_xshortest : K.lookup f_xshortest = some ⟨oc_xshortest, od_xshortest, .func (PySem.W.fnOf "shortest" "shortest" (defArgs s_shortest) (defBody s_shortest) (defScope s_shortest) .none kV_xshortest dc_xshortest pm_xshortest an_xshortest cd_xshortest ct_xshortest), sl_xshortest⟩)
    (c_xshortest : PySem.W.codeIn K cd_xshortest "shortest" = true)
    (k_xshortest : PySem.W.keepIn K (.ref f_xshortest) = true)
    (a_xtakers : PySem.W.nsIn K mainGlobals "takers" = some (some (.ref f_xtakers)))
    (l_xtakers : K.lookup f_xtakers = some ⟨oc_xtakers, od_xtakers, .func (PySem.W.fnOf "takers" "takers" (defArgs s_takers) (defBody s_takers) (defScope s_takers) .none kV_xtakers dc_xtakers pm_xtakers an_xtakers cd_xtakers ct_xtakers), sl_xtakers⟩)
    (c_xtakers : PySem.W.codeIn K cd_xtakers "takers" = true)
    (k_xtakers : PySem.W.keepIn K (.ref f_xtakers) = true)
    (a_xways : PySem.W.nsIn K mainGlobals "ways" = some (some (.ref f_xways)))
    (l_xways : K.lookup f_xways = some ⟨oc_xways, od_xways, .func (PySem.W.fnOf "ways" "ways" (defArgs s_ways) (defBody s_ways) (defScope s_ways) .none kV_xways dc_xways pm_xways an_xways cd_xways ct_xways), sl_xways⟩)
    (c_xways : PySem.W.codeIn K cd_xways "ways" = true)
    (k_xways : PySem.W.keepIn K (.ref f_xways) = true)
    (a_x_rows_of_numbers : PySem.W.nsIn K mainGlobals "_rows_of_numbers" = some (some (.ref f_x_rows_of_numbers)))
    (l_x_rows_of_numbers : K.lookup f_x_rows_of_numbers = some ⟨oc_x_rows_of_numbers, od_x_rows_of_numbers, .func (PySem.W.fnOf "_rows_of_numbers" "_rows_of_numbers" (defArgs s__rows_of_numbers) (defBody s__rows_of_numbers) (defScope s__rows_of_numbers) .none kV_x_rows_of_numbers dc_x_rows_of_numbers pm_x_rows_of_numbers an_x_rows_of_numbers cd_x_rows_of_numbers ct_x_rows_of_numbers), sl_x_rows_of_numbers⟩)
    (c_x_rows_of_numbers : PySem.W.codeIn K cd_x_rows_of_numbers "_rows_of_numbers" = true)
    (k_x_rows_of_numbers : PySem.W.keepIn K (.ref f_x_rows_of_numbers) = true)
    (a_od : PySem.W.nsIn K mainGlobals "_law_odd_reader" = some (some (.ref f_od)))
    (l_od : K.lookup f_od = some ⟨oc_od, od_od, .func (PySem.W.fnOf "_law_odd_reader" "_law_odd_reader" (defArgs sOR) (defBody sOR) (defScope sOR) .none kV_od dc_od pm_od an_od cd_od ct_od), sl_od⟩)
    (c_od : PySem.W.codeIn K cd_od "_law_odd_reader" = true)
    (k_od : PySem.W.keepIn K (.ref f_od) = true)
    (a_lc : PySem.W.nsIn K mainGlobals "_law_call" = some (some (.ref f_lc)))
    (l_lc : K.lookup f_lc = some ⟨oc_lc, od_lc, .func (PySem.W.fnOf "_law_call" "_law_call" (defArgs sLC) (defBody sLC) (defScope sLC) .none kV_lc dc_lc pm_lc an_lc cd_lc ct_lc), sl_lc⟩)
    (c_lc : PySem.W.codeIn K cd_lc "_law_call" = true)
    (k_lc : PySem.W.keepIn K (.ref f_lc) = true)
    (a_lt : PySem.W.nsIn K mainGlobals "_law_told" = some (some (.ref f_lt)))
    (l_lt : K.lookup f_lt = some ⟨oc_lt, od_lt, .func (PySem.W.fnOf "_law_told" "_law_told" (defArgs sLT) (defBody sLT) (defScope sLT) .none kV_lt dc_lt pm_lt an_lt cd_lt ct_lt), sl_lt⟩)
    (c_lt : PySem.W.codeIn K cd_lt "_law_told" = true)
    (k_lt : PySem.W.keepIn K (.ref f_lt) = true)
    (a_ll : PySem.W.nsIn K mainGlobals "_law_lot" = some (some (.ref f_ll)))
    (l_ll : K.lookup f_ll = some ⟨oc_ll, od_ll, .func (PySem.W.fnOf "_law_lot" "_law_lot" (defArgs sLL) (defBody sLL) (defScope sLL) .none kV_ll dc_ll pm_ll an_ll cd_ll ct_ll), sl_ll⟩)
    (c_ll : PySem.W.codeIn K cd_ll "_law_lot" = true)
    (k_ll : PySem.W.keepIn K (.ref f_ll) = true)
    (a_Cm : PySem.W.nsIn K mainGlobals "Column" = some (some (.ref CC)))
    (cmk : PySem.W.makesIn K CC = true)
    (ckc : PySem.W.keepIn K (.ref CC) = true)
    (a_cin : PySem.W.findIn K (.ref CC) "__init__" = some (some (.ref f_cin)))
    (i_cin : PySem.W.isFn K (.ref f_cin) = true)
    (l_cin : K.lookup f_cin = some ⟨oc_cin, od_cin, .func (PySem.W.fnOf "__init__" "Column.__init__" (defArgs s_col) (defBody s_col) (defScope s_col) .none kV_cin dc_cin pm_cin an_cin cd_cin ct_cin), sl_cin⟩)
    (c_cin : PySem.W.codeIn K cd_cin "Column.__init__" = true)
    (k_cin : PySem.W.keepIn K (.ref f_cin) = true)
    (a_law : PySem.W.nsIn K mainGlobals "law" = some (some (.ref f_law)))
    (l_law : K.lookup f_law = some ⟨oc_law, od_law, .func (PySem.W.fnOf "law" "law" (defArgs sLaw) (defBody sLaw) (defScope sLaw) .none kV_law dc_law pm_law an_law cd_law ct_law), sl_law⟩)
    (c_law : PySem.W.codeIn K cd_law "law" = true)
    (k_law : PySem.W.keepIn K (.ref f_law) = true)
    : ∃ fd : FuncData, (∀ (s : Shared) (v : Value), BindsTo s fd ⟨[v], []⟩ [("_law_script", v)]) ∧ ∀ base : Heap, K.In base → base.Ns mainGlobals mg → FnOk l.prog w K mg base CX0 12 fa fd ["_law_script"] (spLaw K) := by
  have B_BP : RaX.BadTxt (l.prog) K mg "BadPart" "part" C_BP fi_BP := { gC := (PySem.W.mg_of X G a_BP), cls := ⟨_, _, _, _, _, _, _, _, _, _, _, _, _, _, _, x_BP, (show PySem.HandSPX.refsVE [.type "ValueError", .type "Exception", .type "BaseException", .type "object"] = true from by decide +kernel), al_BP⟩, sa := sa_BP, ga := ga_BP, gg := gg_BP, noN := nn_BP, iC := ii_BP, tC := ti_BP, kC := kc_BP, exC := eb_BP, vaC := ev_BP, tyC := et_BP, hdC := hd_BP, own := ow_BP, ops := ops, sup := PySem.W.mg_none_of X G n_super, fok := ⟨by decide +kernel, by decide +kernel, by decide +kernel, by decide +kernel, by decide +kernel, fun _ _ _ _ _ _ _ _ _ _ _ _ _ => rfl⟩, top := htop, fn := ⟨"BadPart.__init__", "a reader cannot have this as its part ", _, _, _, _, _, _, _, _, _, _, _, ⟨⟨10, 8, 10, 13⟩, ⟨10, 8, 10, 15⟩, ⟨10, 8, 10, 24⟩, ⟨10, 27, 10, 65⟩, ⟨10, 66, 10, 70⟩, ⟨10, 65, 10, 71⟩, ⟨10, 25, 10, 72⟩, ⟨10, 8, 10, 73⟩, ⟨10, 8, 10, 73⟩, ⟨11, 8, 11, 12⟩, ⟨11, 8, 11, 17⟩, ⟨11, 20, 11, 24⟩, ⟨11, 8, 11, 24⟩⟩, _, _, _, _, _, _, _, _, _, l_BP, cd_BP, by decide +kernel, by decide +kernel, lc_BP, v2_BP, fi_BPe, lz_BP⟩ }
  have te_BP : PySem.W.exmOne K (.ref C_BP) (.ref C_BP) = some true := Ra.exm_self eb_BP ic_BP et_BP se_BP
  have E_BR : ErrK K mg "BadReader" C_BR := ⟨(PySem.W.mg_of X G a_BR), kc_BR, q_BR, eb_BR, et_BR⟩
  have te_BR : PySem.W.exmOne K (.ref C_BR) (.ref C_BR) = some true := Ra.exm_self eb_BR ic_BR et_BR se_BR
  have B_BRs : RaX.BadTxt (l.prog) K mg "BadReaders" "index" C_BRs fi_BRs := { gC := (PySem.W.mg_of X G a_BRs), cls := ⟨_, _, _, _, _, _, _, _, _, _, _, _, _, _, _, x_BRs, (show PySem.HandSPX.refsVE [.type "ValueError", .type "Exception", .type "BaseException", .type "object"] = true from by decide +kernel), al_BRs⟩, sa := sa_BRs, ga := ga_BRs, gg := gg_BRs, noN := nn_BRs, iC := ii_BRs, tC := ti_BRs, kC := kc_BRs, exC := eb_BRs, vaC := ev_BRs, tyC := et_BRs, hdC := hd_BRs, own := ow_BRs, ops := ops, sup := PySem.W.mg_none_of X G n_super, fok := ⟨by decide +kernel, by decide +kernel, by decide +kernel, by decide +kernel, by decide +kernel, fun _ _ _ _ _ _ _ _ _ _ _ _ _ => rfl⟩, top := htop, fn := ⟨"BadReaders.__init__", "not 1 to 4 Readers: ", _, _, _, _, _, _, _, _, _, _, _, ⟨⟨17, 8, 17, 13⟩, ⟨17, 8, 17, 15⟩, ⟨17, 8, 17, 24⟩, ⟨17, 27, 17, 47⟩, ⟨17, 48, 17, 53⟩, ⟨17, 47, 17, 54⟩, ⟨17, 25, 17, 55⟩, ⟨17, 8, 17, 56⟩, ⟨17, 8, 17, 56⟩, ⟨18, 8, 18, 12⟩, ⟨18, 8, 18, 18⟩, ⟨18, 21, 18, 26⟩, ⟨18, 8, 18, 26⟩⟩, _, _, _, _, _, _, _, _, _, l_BRs, cd_BRs, by decide +kernel, by decide +kernel, lc_BRs, v2_BRs, fi_BRse, lz_BRs⟩ }
  have te_BRs : PySem.W.exmOne K (.ref C_BRs) (.ref C_BRs) = some true := Ra.exm_self eb_BRs ic_BRs et_BRs se_BRs
  have F_init := fun_mk (st := sInit) l_init c_init k_init
  have b_init := F_init.binds (ps := ["self", "point", "comma", "rest", "must", "sign", "zeros", "blanks", "exponent"]) fun _ _ _ _ _ _ us hl => match us, hl with | [_, _, _, _, _, _, _, _, _], _ => rfl
  have F_taken := fun_mk (st := sTaken) l_taken c_taken k_taken
  have F_lparts := fun_mk (st := sParts) l_lparts c_lparts k_lparts
  have F_made := fun_mk (st := sMade) l_made c_made k_made
  have F_first := fun_mk (st := sFirst) l_first c_first k_first
  have F_among := fun_mk (st := sAmong) l_among c_among k_among
  have F_clash := fun_mk (st := sClash) l_clash c_clash k_clash
  have F_cr := fun_mk (st := sChk) l_cr c_cr k_cr
  have F_crs := fun_mk (st := sCRs) l_crs c_crs k_crs
  have F_pair := fun_mk (st := s_pair) l_pair c_pair k_pair
  have F_xparts := fun_mk (st := s_parts) l_xparts c_xparts k_xparts
  have F_xwrite := fun_mk (st := s_write) l_xwrite c_xwrite k_xwrite
  have F_xfirst_stop := fun_mk (st := s_first_stop) l_xfirst_stop c_xfirst_stop k_xfirst_stop
  have F_xmeans := fun_mk (st := s_means) l_xmeans c_xmeans k_xmeans
  have F_xtakes := fun_mk (st := s_takes) l_xtakes c_xtakes k_xtakes
  have F_xcount := fun_mk (st := s_count) l_xcount c_xcount k_xcount
  have F_xwritten := fun_mk (st := s_written) l_xwritten c_xwritten k_xwritten
  have F_xalone := fun_mk (st := s_alone) l_xalone c_xalone k_xalone
  have F_xsame := fun_mk (st := s_same) l_xsame c_xsame k_xsame
  have F_xoff := fun_mk (st := s_off) l_xoff c_xoff k_xoff
  have F_xtwo_numbers := fun_mk (st := s_two_numbers) l_xtwo_numbers c_xtwo_numbers k_xtwo_numbers
  have F_xcount_both := fun_mk (st := s_count_both) l_xcount_both c_xcount_both k_xcount_both
  have F_xmisread := fun_mk (st := s_misread) l_xmisread c_xmisread k_xmisread
  have F_xparting := fun_mk (st := s_parting) l_xparting c_xparting k_xparting
  have F_xsafety := fun_mk (st := s_safety) l_xsafety c_xsafety k_xsafety
  have F_xshortest := fun_mk (st := s_shortest) l_xshortest c_xshortest k_xshortest
  have F_xtakers := fun_mk (st := s_takers) l_xtakers c_xtakers k_xtakers
  have F_xways := fun_mk (st := s_ways) l_xways c_xways k_xways
  have F_x_rows_of_numbers := fun_mk (st := s__rows_of_numbers) l_x_rows_of_numbers c_x_rows_of_numbers k_x_rows_of_numbers
  have F_od := fun_mk (st := sOR) l_od c_od k_od
  have F_lc := fun_mk (st := sLC) l_lc c_lc k_lc
  have F_lt := fun_mk (st := sLT) l_lt c_lt k_lt
  have F_ll := fun_mk (st := sLL) l_ll c_ll k_ll
  have b_taken := F_taken.binds (ps := ["_law_row", "_law_many"]) fun _ _ _ _ _ _ us hl => match us, hl with | [_, _], _ => rfl
  have g_taken : GFn K mg "_law_taken" f_taken _ ["_law_row", "_law_many"] := ⟨PySem.W.mg_of X G a_taken, k_taken, b_taken⟩
  have b_lparts := F_lparts.binds (ps := ["_law_row"]) fun _ _ _ _ _ _ us hl => match us, hl with | [_], _ => rfl
  have g_lparts : GFn K mg "_law_parts" f_lparts _ ["_law_row"] := ⟨PySem.W.mg_of X G a_lparts, k_lparts, b_lparts⟩
  have b_made := F_made.binds (ps := ["_law_told_here"]) fun _ _ _ _ _ _ us hl => match us, hl with | [_], _ => rfl
  have g_made : GFn K mg "_law_made" f_made _ ["_law_told_here"] := ⟨PySem.W.mg_of X G a_made, k_made, b_made⟩
  have b_first := F_first.binds (ps := ["values"]) fun _ _ _ _ _ _ us hl => match us, hl with | [_], _ => rfl
  have g_first : GFn K mg "_first_wrong" f_first _ ["values"] := ⟨PySem.W.mg_of X G a_first, k_first, b_first⟩
  have b_among := F_among.binds (ps := ["value", "choices"]) fun _ _ _ _ _ _ us hl => match us, hl with | [_, _], _ => rfl
  have g_among : GFn K mg "_is_among" f_among _ ["value", "choices"] := ⟨PySem.W.mg_of X G a_among, k_among, b_among⟩
  have b_clash := F_clash.binds (ps := ["name", "values"]) fun _ _ _ _ _ _ us hl => match us, hl with | [_, _], _ => rfl
  have g_clash : GFn K mg "_clashes" f_clash _ ["name", "values"] := ⟨PySem.W.mg_of X G a_clash, k_clash, b_clash⟩
  have b_cr := F_cr.binds (ps := ["value"]) fun _ _ _ _ _ _ us hl => match us, hl with | [_], _ => rfl
  have g_cr : GFn K mg "check_reader" f_cr _ ["value"] := ⟨PySem.W.mg_of X G a_cr, k_cr, b_cr⟩
  have b_crs := F_crs.binds (ps := ["values"]) fun _ _ _ _ _ _ us hl => match us, hl with | [_], _ => rfl
  have g_crs : GFn K mg "check_readers" f_crs _ ["values"] := ⟨PySem.W.mg_of X G a_crs, k_crs, b_crs⟩
  have b_pair := F_pair.binds (ps := ["one", "other"]) fun _ _ _ _ _ _ us hl => match us, hl with | [_, _], _ => rfl
  have g_pair : GFn K mg "_check_pair" f_pair _ ["one", "other"] := ⟨PySem.W.mg_of X G a_pair, k_pair, b_pair⟩
  have b_xparts := F_xparts.binds (ps := ["reader"]) fun _ _ _ _ _ _ us hl => match us, hl with | [_], _ => rfl
  have g_xparts : GFn K mg "parts" f_xparts _ ["reader"] := ⟨PySem.W.mg_of X G a_xparts, k_xparts, b_xparts⟩
  have b_xwrite := F_xwrite.binds (ps := ["reader"]) fun _ _ _ _ _ _ us hl => match us, hl with | [_], _ => rfl
  have g_xwrite : GFn K mg "write" f_xwrite _ ["reader"] := ⟨PySem.W.mg_of X G a_xwrite, k_xwrite, b_xwrite⟩
  have b_xfirst_stop := F_xfirst_stop.binds (ps := ["reader", "text"]) fun _ _ _ _ _ _ us hl => match us, hl with | [_, _], _ => rfl
  have g_xfirst_stop : GFn K mg "first_stop" f_xfirst_stop _ ["reader", "text"] := ⟨PySem.W.mg_of X G a_xfirst_stop, k_xfirst_stop, b_xfirst_stop⟩
  have b_xmeans := F_xmeans.binds (ps := ["reader", "text"]) fun _ _ _ _ _ _ us hl => match us, hl with | [_, _], _ => rfl
  have g_xmeans : GFn K mg "means" f_xmeans _ ["reader", "text"] := ⟨PySem.W.mg_of X G a_xmeans, k_xmeans, b_xmeans⟩
  have b_xtakes := F_xtakes.binds (ps := ["reader", "text"]) fun _ _ _ _ _ _ us hl => match us, hl with | [_, _], _ => rfl
  have g_xtakes : GFn K mg "takes" f_xtakes _ ["reader", "text"] := ⟨PySem.W.mg_of X G a_xtakes, k_xtakes, b_xtakes⟩
  have b_xcount := F_xcount.binds (ps := ["reader", "length"]) fun _ _ _ _ _ _ us hl => match us, hl with | [_, _], _ => rfl
  have g_xcount : GFn K mg "count" f_xcount _ ["reader", "length"] := ⟨PySem.W.mg_of X G a_xcount, k_xcount, b_xcount⟩
  have b_xwritten := F_xwritten.binds (ps := ["reader", "number"]) fun _ _ _ _ _ _ us hl => match us, hl with | [_, _], _ => rfl
  have g_xwritten : GFn K mg "written" f_xwritten _ ["reader", "number"] := ⟨PySem.W.mg_of X G a_xwritten, k_xwritten, b_xwritten⟩
  have b_xalone := F_xalone.binds (ps := ["one", "other"]) fun _ _ _ _ _ _ us hl => match us, hl with | [_, _], _ => rfl
  have g_xalone : GFn K mg "alone" f_xalone _ ["one", "other"] := ⟨PySem.W.mg_of X G a_xalone, k_xalone, b_xalone⟩
  have b_xsame := F_xsame.binds (ps := ["one", "other"]) fun _ _ _ _ _ _ us hl => match us, hl with | [_, _], _ => rfl
  have g_xsame : GFn K mg "same" f_xsame _ ["one", "other"] := ⟨PySem.W.mg_of X G a_xsame, k_xsame, b_xsame⟩
  have b_xoff := F_xoff.binds (ps := ["writer", "reader"]) fun _ _ _ _ _ _ us hl => match us, hl with | [_, _], _ => rfl
  have g_xoff : GFn K mg "off" f_xoff _ ["writer", "reader"] := ⟨PySem.W.mg_of X G a_xoff, k_xoff, b_xoff⟩
  have b_xtwo_numbers := F_xtwo_numbers.binds (ps := ["one", "other"]) fun _ _ _ _ _ _ us hl => match us, hl with | [_, _], _ => rfl
  have g_xtwo_numbers : GFn K mg "two_numbers" f_xtwo_numbers _ ["one", "other"] := ⟨PySem.W.mg_of X G a_xtwo_numbers, k_xtwo_numbers, b_xtwo_numbers⟩
  have b_xcount_both := F_xcount_both.binds (ps := ["one", "other", "length"]) fun _ _ _ _ _ _ us hl => match us, hl with | [_, _, _], _ => rfl
  have g_xcount_both : GFn K mg "count_both" f_xcount_both _ ["one", "other", "length"] := ⟨PySem.W.mg_of X G a_xcount_both, k_xcount_both, b_xcount_both⟩
  have b_xmisread := F_xmisread.binds (ps := ["writer", "reader", "number"]) fun _ _ _ _ _ _ us hl => match us, hl with | [_, _, _], _ => rfl
  have g_xmisread : GFn K mg "misread" f_xmisread _ ["writer", "reader", "number"] := ⟨PySem.W.mg_of X G a_xmisread, k_xmisread, b_xmisread⟩
  have b_xparting := F_xparting.binds (ps := ["readers"]) fun _ _ _ _ _ _ us hl => match us, hl with | [_], _ => rfl
  have g_xparting : GFn K mg "parting" f_xparting _ ["readers"] := ⟨PySem.W.mg_of X G a_xparting, k_xparting, b_xparting⟩
  have b_xsafety := F_xsafety.binds (ps := ["readers", "text"]) fun _ _ _ _ _ _ us hl => match us, hl with | [_, _], _ => rfl
  have g_xsafety : GFn K mg "safety" f_xsafety _ ["readers", "text"] := ⟨PySem.W.mg_of X G a_xsafety, k_xsafety, b_xsafety⟩
  have b_xshortest := F_xshortest.binds (ps := ["readers", "number"]) fun _ _ _ _ _ _ us hl => match us, hl with | [_, _], _ => rfl
  have g_xshortest : GFn K mg "shortest" f_xshortest _ ["readers", "number"] := ⟨PySem.W.mg_of X G a_xshortest, k_xshortest, b_xshortest⟩
  have b_xtakers := F_xtakers.binds (ps := ["readers", "texts"]) fun _ _ _ _ _ _ us hl => match us, hl with | [_, _], _ => rfl
  have g_xtakers : GFn K mg "takers" f_xtakers _ ["readers", "texts"] := ⟨PySem.W.mg_of X G a_xtakers, k_xtakers, b_xtakers⟩
  have b_xways := F_xways.binds (ps := ["readers", "texts"]) fun _ _ _ _ _ _ us hl => match us, hl with | [_, _], _ => rfl
  have g_xways : GFn K mg "ways" f_xways _ ["readers", "texts"] := ⟨PySem.W.mg_of X G a_xways, k_xways, b_xways⟩
  have b_x_rows_of_numbers := F_x_rows_of_numbers.binds (ps := ["readers", "texts"]) fun _ _ _ _ _ _ us hl => match us, hl with | [_, _], _ => rfl
  have g_x_rows_of_numbers : GFn K mg "_rows_of_numbers" f_x_rows_of_numbers _ ["readers", "texts"] := ⟨PySem.W.mg_of X G a_x_rows_of_numbers, k_x_rows_of_numbers, b_x_rows_of_numbers⟩
  have b_od := F_od.binds (ps := ["_law_row"]) fun _ _ _ _ _ _ us hl => match us, hl with | [_], _ => rfl
  have g_od : GFn K mg "_law_odd_reader" f_od _ ["_law_row"] := ⟨PySem.W.mg_of X G a_od, k_od, b_od⟩
  have b_lc := F_lc.binds (ps := ["_law_kind", "_law_value"]) fun _ _ _ _ _ _ us hl => match us, hl with | [_, _], _ => rfl
  have g_lc : GFn K mg "_law_call" f_lc _ ["_law_kind", "_law_value"] := ⟨PySem.W.mg_of X G a_lc, k_lc, b_lc⟩
  have b_lt := F_lt.binds (ps := ["_law_kind", "_law_value"]) fun _ _ _ _ _ _ us hl => match us, hl with | [_, _], _ => rfl
  have g_lt : GFn K mg "_law_told" f_lt _ ["_law_kind", "_law_value"] := ⟨PySem.W.mg_of X G a_lt, k_lt, b_lt⟩
  have b_ll := F_ll.binds (ps := ["_law_kind", "_law_value"]) fun _ _ _ _ _ _ us hl => match us, hl with | [_, _], _ => rfl
  have g_ll : GFn K mg "_law_lot" f_ll _ ["_law_kind", "_law_value"] := ⟨PySem.W.mg_of X G a_ll, k_ll, b_ll⟩
  have F_cin := fun_mk (st := s_col) l_cin c_cin k_cin
  have b_cin := F_cin.binds (ps := ["self", "readers"]) fun _ _ _ _ _ _ us hl => match us, hl with | [_, _], _ => rfl
  have F_law := fun_mk (st := sLaw) l_law c_law k_law
  have e := hfa.symm.trans (PySem.W.mg_of X G a_law)
  cases e
  have TB : TBl mg := { int := (PySem.W.mg_none_of X G n_int), len := (PySem.W.mg_none_of X G n_len), isi := (PySem.W.mg_none_of X G n_isinstance), bool := (PySem.W.mg_none_of X G n_bool), any := (PySem.W.mg_none_of X G n_any), zip := (PySem.W.mg_none_of X G n_zip), range := (PySem.W.mg_none_of X G n_range), list := (PySem.W.mg_none_of X G n_list), tuple := (PySem.W.mg_none_of X G n_tuple), min := (PySem.W.mg_none_of X G n_min), max := (PySem.W.mg_none_of X G n_max), str := (PySem.W.mg_none_of X G n_str), en := (PySem.W.mg_none_of X G n_enumerate), all := (PySem.W.mg_none_of X G n_all), set := (PySem.W.mg_none_of X G n_set), sum := (PySem.W.mg_none_of X G n_sum), abs := (PySem.W.mg_none_of X G n_abs), sorted := (PySem.W.mg_none_of X G n_sorted), dict := (PySem.W.mg_none_of X G n_dict), rev := (PySem.W.mg_none_of X G n_reversed) }
  have chk : ChK K c0 := ⟨fun i => [q0, q1, q2, q3, q4, q5, q6, q7].getD i 0, fun i => [r_0, r_1, r_2, r_3, r_4, r_5, r_6, r_7].getD i 0, wt_mk c_0 (by simp) (.cons (rfl) (.cons (rfl) (.cons (rfl) (.cons (rfl) (.cons (rfl) (.cons (rfl) (.cons (rfl) (.cons (rfl) (.nil))))))))), fun i hi => by
    rcases lt8 hi with rfl | rfl | rfl | rfl | rfl | rfl | rfl | rfl
    · exact ⟨wt_mk cq0 (by simp) (.cons ⟨_, rfl⟩ (.cons rfl .nil)), wt_mk cr0 (by simp) (.cons (⟨_, rfl⟩) (.cons (⟨_, rfl⟩) (.cons (⟨_, rfl⟩) (.nil))))⟩
    · exact ⟨wt_mk cq1 (by simp) (.cons ⟨_, rfl⟩ (.cons rfl .nil)), wt_mk cr1 (by simp) (.cons (⟨_, rfl⟩) (.cons (⟨_, rfl⟩) (.cons (⟨_, rfl⟩) (.cons (⟨_, rfl⟩) (.cons (⟨_, rfl⟩) (.nil))))))⟩
    · exact ⟨wt_mk cq2 (by simp) (.cons ⟨_, rfl⟩ (.cons rfl .nil)), wt_mk cr2 (by simp) (.cons (⟨_, rfl⟩) (.cons (⟨_, rfl⟩) (.nil)))⟩
    · exact ⟨wt_mk cq3 (by simp) (.cons ⟨_, rfl⟩ (.cons rfl .nil)), wt_mk cr3 (by simp) (.cons (rfl) (.cons (rfl) (.nil)))⟩
    · exact ⟨wt_mk cq4 (by simp) (.cons ⟨_, rfl⟩ (.cons rfl .nil)), wt_mk cr4 (by simp) (.cons (⟨_, rfl⟩) (.cons (⟨_, rfl⟩) (.cons (⟨_, rfl⟩) (.nil))))⟩
    · exact ⟨wt_mk cq5 (by simp) (.cons ⟨_, rfl⟩ (.cons rfl .nil)), wt_mk cr5 (by simp) (.cons (rfl) (.cons (rfl) (.nil)))⟩
    · exact ⟨wt_mk cq6 (by simp) (.cons ⟨_, rfl⟩ (.cons rfl .nil)), wt_mk cr6 (by simp) (.cons (rfl) (.cons (rfl) (.nil)))⟩
    · exact ⟨wt_mk cq7 (by simp) (.cons ⟨_, rfl⟩ (.cons rfl .nil)), wt_mk cr7 (by simp) (.cons (rfl) (.cons (rfl) (.nil)))⟩⟩
  have cl : Cls K C := ⟨pg, hd, po, sa⟩
  have TR : TRd l.prog K mg C f_init C_BP fi_BP _ := ⟨cl, np, PySem.W.mg_of X G a_Rd, ⟨mk, a_init, i_init, kc⟩, b_init, B_BP⟩
  have ic : C8.InsC K C := ⟨cl, ha, hn, htk, hm, me⟩
  have NO : NoOwn K C := ⟨no_non, no_int, no_bl, no_str, no_tup, no_lst, no_dct⟩
  have TC : TCk K mg C C_BR := ⟨(PySem.W.mg_none_of X G n_isinstance), PySem.W.mg_of X G a_Rd, ic, np, E_BR⟩
  have gT : TkG K mg f_taken _ := ⟨PySem.W.mg_of X G a_taken, k_taken, b_taken⟩
  refine ⟨PySem.W.fnOf "law" "law" (defArgs sLaw) (defBody sLaw) (defScope sLaw) .none kV_law dc_law pm_law an_law cd_law ct_law, fun s v => .of_eq rfl, fun base _ _ => ?_⟩
  have GT : FnOk l.prog w K mg base CX0 1 f_taken _ ["_law_row", "_law_many"] (spTaken K) := ok_taken F_taken ⟨(PySem.W.mg_none_of X G n_int), (PySem.W.mg_none_of X G n_len)⟩
  have GP := ok_parts (P := l.prog) (w := w) (K := K) (mg := mg) (base := base) F_lparts GT gT
  have GA := ok_among (P := l.prog) (w := w) (K := K) (mg := mg) (base := base) F_among ⟨(PySem.W.mg_none_of X G n_isinstance), (PySem.W.mg_none_of X G n_bool), (PySem.W.mg_none_of X G n_any), (PySem.W.mg_none_of X G n_zip)⟩
  have GC := ok_clash (P := l.prog) (w := w) (K := K) (mg := mg) (base := base) F_clash
  have GF := ok_first (P := l.prog) (w := w) (K := K) (mg := mg) (base := base) F_first ⟨(PySem.W.mg_none_of X G n_zip), PySem.W.mg_of X G a_CH, chk⟩ GA g_among GC g_clash
  have GI := ok_init (P := l.prog) (w := w) (K := K) (mg := mg) (base := base) F_init TR GF g_first
  have GM := ok_made (P := l.prog) (w := w) (K := K) (mg := mg) (base := base) F_made TR GI
  have CK := ok_chk (P := l.prog) (w := w) (K := K) (mg := mg) (base := base) F_cr TC
  have CRS := ok_crds (P := l.prog) (w := w) (K := K) (mg := mg) (base := base) F_crs TB (PySem.W.mg_of X G a_MR) ⟨_, rfl⟩ B_BRs (PySem.W.mg_of X G a_Rd) ic me
  have Gparts := okR_parts (P := l.prog) (w := w) (K := K) (mg := mg) (base := base) F_xparts CK g_cr
  have Gwrite := okR_write (P := l.prog) (w := w) (K := K) (mg := mg) (base := base) F_xwrite CK g_cr
  have Gfirst_stop := okR_first_stop (P := l.prog) (w := w) (K := K) (mg := mg) (base := base) F_xfirst_stop CK g_cr
  have Gcount := okR_count (P := l.prog) (w := w) (K := K) (mg := mg) (base := base) F_xcount CK g_cr
  have Gwritten := okR_written (P := l.prog) (w := w) (K := K) (mg := mg) (base := base) F_xwritten CK g_cr
  have Goff := okR_off (P := l.prog) (w := w) (K := K) (mg := mg) (base := base) F_xoff CK g_cr
  have Gmisread := okR_misread (P := l.prog) (w := w) (K := K) (mg := mg) (base := base) F_xmisread CK g_cr
  have Gmeans := okR_means (P := l.prog) (w := w) (K := K) (mg := mg) (base := base) F_xmeans Gfirst_stop g_xfirst_stop
  have Gtakes := okR_takes (P := l.prog) (w := w) (K := K) (mg := mg) (base := base) F_xtakes Gfirst_stop g_xfirst_stop
  have Gpair := okR_pair (P := l.prog) (w := w) (K := K) (mg := mg) (base := base) F_pair CK g_cr
  have Galone := okR_alone (P := l.prog) (w := w) (K := K) (mg := mg) (base := base) F_xalone Gpair g_pair
  have Gtwo_numbers := okR_two_numbers (P := l.prog) (w := w) (K := K) (mg := mg) (base := base) F_xtwo_numbers Gpair g_pair
  have Gsame := okR_same (P := l.prog) (w := w) (K := K) (mg := mg) (base := base) F_xsame Gpair g_pair
  have Gcount_both := okR_count_both (P := l.prog) (w := w) (K := K) (mg := mg) (base := base) F_xcount_both Gpair g_pair
  have Gparting := okR_parting (P := l.prog) (w := w) (K := K) (mg := mg) (base := base) F_xparting CRS g_crs
  have Gsafety := okR_safety (P := l.prog) (w := w) (K := K) (mg := mg) (base := base) F_xsafety CRS g_crs
  have Gshortest := okR_shortest (P := l.prog) (w := w) (K := K) (mg := mg) (base := base) F_xshortest CRS g_crs
  have G_rows_of_numbers := okR__rows_of_numbers (P := l.prog) (w := w) (K := K) (mg := mg) (base := base) F_x_rows_of_numbers CRS g_crs
  have GCI := okR_col (P := l.prog) (w := w) (K := K) (mg := mg) (base := base) F_cin CRS g_crs
  have Gtakers := okR_takers (P := l.prog) (w := w) (K := K) (mg := mg) (base := base) F_xtakers G_rows_of_numbers g_x_rows_of_numbers
  have Gways := okR_ways (P := l.prog) (w := w) (K := K) (mg := mg) (base := base) F_xways TB G_rows_of_numbers g_x_rows_of_numbers
  have LC := ok_lcall (P := l.prog) (w := w) (K := K) (mg := mg) (base := base) F_lc TR GI ⟨2, _, _, by decide, Gparts, k_xparts, b_xparts⟩ (PySem.W.mg_of X G a_xparts) ⟨2, _, _, by decide, Gwrite, k_xwrite, b_xwrite⟩ (PySem.W.mg_of X G a_xwrite) ⟨2, _, _, by decide, Gfirst_stop, k_xfirst_stop, b_xfirst_stop⟩ (PySem.W.mg_of X G a_xfirst_stop) ⟨3, _, _, by decide, Gmeans, k_xmeans, b_xmeans⟩ (PySem.W.mg_of X G a_xmeans) ⟨3, _, _, by decide, Gtakes, k_xtakes, b_xtakes⟩ (PySem.W.mg_of X G a_xtakes) ⟨2, _, _, by decide, Gcount, k_xcount, b_xcount⟩ (PySem.W.mg_of X G a_xcount) ⟨2, _, _, by decide, Gwritten, k_xwritten, b_xwritten⟩ (PySem.W.mg_of X G a_xwritten) ⟨3, _, _, by decide, Galone, k_xalone, b_xalone⟩ (PySem.W.mg_of X G a_xalone) ⟨3, _, _, by decide, Gsame, k_xsame, b_xsame⟩ (PySem.W.mg_of X G a_xsame) ⟨2, _, _, by decide, Goff, k_xoff, b_xoff⟩ (PySem.W.mg_of X G a_xoff) ⟨3, _, _, by decide, Gtwo_numbers, k_xtwo_numbers, b_xtwo_numbers⟩ (PySem.W.mg_of X G a_xtwo_numbers) ⟨3, _, _, by decide, Gcount_both, k_xcount_both, b_xcount_both⟩ (PySem.W.mg_of X G a_xcount_both) ⟨2, _, _, by decide, Gmisread, k_xmisread, b_xmisread⟩ (PySem.W.mg_of X G a_xmisread) Gtwo_numbers k_xtwo_numbers b_xtwo_numbers
  have LT := ok_ltold (P := l.prog) (w := w) (K := K) (mg := mg) (base := base) F_lt E_BR te_BR LC g_lc
  have LL := ok_llot (P := l.prog) (w := w) (K := K) (mg := mg) (base := base) F_ll B_BRs xm_BRs_BRs Gparting g_xparting ⟨cmk, a_cin, i_cin, ckc⟩ GCI (PySem.W.mg_of X G a_Cm) b_cin ⟨4, _, _, by decide, Gsafety, k_xsafety, b_xsafety⟩ (PySem.W.mg_of X G a_xsafety) ⟨4, _, _, by decide, Gshortest, k_xshortest, b_xshortest⟩ (PySem.W.mg_of X G a_xshortest) ⟨5, _, _, by decide, Gtakers, k_xtakers, b_xtakers⟩ (PySem.W.mg_of X G a_xtakers) ⟨5, _, _, by decide, Gways, k_xways, b_xways⟩ (PySem.W.mg_of X G a_xways)
  have OD := ok_oddreader (P := l.prog) (w := w) (K := K) (mg := mg) (base := base) F_od NO GT gT
  exact ok_law (P := l.prog) (w := w) (base := base) F_law TB ic no_rl no_rt GT gT GP g_lparts GM g_made OD g_od LT g_lt LL g_ll

theorem walk {l : PySem.W.OpenLaw} {q : Program} {loose : List Str} {XP : (Str → Option Value) → Heap → Prop} {YP : World → Heap → Prop} {d : DefRec} {K : Params → PySem.W.Frag} (hn : l.most = some 63) (hdf : d.params.defaults = [])
    (hY : ∀ (w : World) (h : Heap), YP w h → (K w.params).In h)
    (F : ∀ (w : World) (mg : Str → Option Value) (fa : Addr) (h : Heap), (K w.params).In h → h.Ns mainGlobals mg → mg d.name = some (.ref fa) →
      ∃ fd : FuncData, (∀ (s : Shared) (u : Value), BindsTo s fd ⟨[u], []⟩ [("_law_script", u)]) ∧ ∀ base : Heap, (K w.params).In base → base.Ns mainGlobals mg → FnOk l.prog w (K w.params) mg base CX0 12 fa fd ["_law_script"] (spLaw (K w.params))) :
    PySem.W.WalkO q loose XP YP l.row.toRowW d [] (fun f vs => PySem.call f vs) :=
  L2.walk_of (n := 63) (k := 12) (x := "_law_script") (CX := fun _ => CX0) (sp := fun w => spLaw (K w.params)) hn (by decide) hdf ⟨rfl, by decide, by decide⟩ hY F (fun _ _ a ns _ hO hS => ⟨a, ns, rfl, ScL.of hO hS, fun _ => rfl⟩) fun _ _ _ _ _ z => z
end Ra

open PySem PySem.W PyProof.Rows
set_option maxRecDepth 100000 in
set_option maxHeartbeats 0 in
theorem PySem.Challenge.cw_readersapart_k02_no_readers_holds : PySem.Challenge.rw_readersapart_k02_no_readers.Holds := by
  w_on; o_law
  refine HandSHeadRun.head_any (r := RaHd.R) (q := RaHd.qv) (H := RaHd.hk) (ob := RaHd.ob) (M := 6797) (loose := RaHd.names) (d := HandSHeadRun.topDef RaHd.R.prog 125) (kwd := [])
    RaHd.ob_eq (by kernel_rfl) (fun s => by kernel_rfl) RaHd.run (by kernel_rfl) (by kernel_rfl) (by kernel_rfl) (by rfl) (by first | assumption | decide +kernel) (by decide +kernel) ⟨rfl, rfl, rfl, rfl, rfl, by decide +kernel⟩ ?hw ?hc
  case hw => w_witness2
  refine Ra.walk (l := PySem.Challenge.rw_readersapart_k02_no_readers) (K := RaHd.heap) rfl (by kernel_rfl) (fun w h Y => PySem.W.kIn_of Y) ?F
  case F =>
    k_fill
    intro w mg fa h KX G hmg0
    have hmg : mg ("law" : PySem.Str) = some (.ref fa) := by
      have e : (HandSHeadRun.topDef RaHd.R.prog 125).name = ("law" : PySem.Str) := by kernel_rfl
      rw [← e]
      exact hmg0
    refine' Ra.all_mk KX G hmg (by decide +kernel) ?a_RE ?ops ?n_int ?n_len ?n_isinstance ?n_bool ?n_any ?n_zip ?n_range ?n_list ?n_tuple ?n_min ?n_max ?n_str ?n_enumerate ?n_all ?n_set ?n_sum ?n_abs ?n_sorted ?n_dict ?n_reversed ?n_super ?a_Rd ?a_BP ?x_BP ?al_BP ?sa_BP ?ga_BP ?gg_BP ?nn_BP ?ii_BP ?ti_BP ?kc_BP ?eb_BP ?ev_BP ?et_BP ?hd_BP ?ow_BP ?ic_BP ?se_BP ?l_BP ?cd_BP ?lc_BP ?v2_BP ?fi_BPe ?lz_BP ?a_BR ?kc_BR ?q_BR ?eb_BR ?et_BR ?ic_BR ?se_BR ?a_BRs ?x_BRs ?al_BRs ?sa_BRs ?ga_BRs ?gg_BRs ?nn_BRs ?ii_BRs ?ti_BRs ?kc_BRs ?eb_BRs ?ev_BRs ?et_BRs ?hd_BRs ?ow_BRs ?ic_BRs ?se_BRs ?l_BRs ?cd_BRs ?lc_BRs ?v2_BRs ?fi_BRse ?lz_BRs ?xm_BRs_BRs ?pg ?hd ?po ?sa ?mk ?kc ?np ?ha ?hn ?htk ?hm ?me ?a_init ?i_init ?l_init ?c_init ?k_init ?a_CH ?c_0 ?cq0 ?cr0 ?cq1 ?cr1 ?cq2 ?cr2 ?cq3 ?cr3 ?cq4 ?cr4 ?cq5 ?cr5 ?cq6 ?cr6 ?cq7 ?cr7 ?no_non ?no_int ?no_bl ?no_str ?no_tup ?no_lst ?no_dct ?no_rl ?no_rt ?a_MR ?a_taken ?l_taken ?c_taken ?k_taken ?a_lparts ?l_lparts ?c_lparts ?k_lparts ?a_made ?l_made ?c_made ?k_made ?a_first ?l_first ?c_first ?k_first ?a_among ?l_among ?c_among ?k_among ?a_clash ?l_clash ?c_clash ?k_clash ?a_cr ?l_cr ?c_cr ?k_cr ?a_crs ?l_crs ?c_crs ?k_crs ?a_pair ?l_pair ?c_pair ?k_pair ?a_xparts ?l_xparts ?c_xparts ?k_xparts ?a_xwrite ?l_xwrite ?c_xwrite ?k_xwrite ?a_xfirst_stop ?l_xfirst_stop ?c_xfirst_stop ?k_xfirst_stop ?a_xmeans ?l_xmeans ?c_xmeans ?k_xmeans ?a_xtakes ?l_xtakes ?c_xtakes ?k_xtakes ?a_xcount ?l_xcount ?c_xcount ?k_xcount ?a_xwritten ?l_xwritten ?c_xwritten ?k_xwritten ?a_xalone ?l_xalone ?c_xalone ?k_xalone ?a_xsame ?l_xsame ?c_xsame ?k_xsame ?a_xoff ?l_xoff ?c_xoff ?k_xoff ?a_xtwo_numbers ?l_xtwo_numbers ?c_xtwo_numbers ?k_xtwo_numbers ?a_xcount_both ?l_xcount_both ?c_xcount_both ?k_xcount_both ?a_xmisread ?l_xmisread ?c_xmisread ?k_xmisread ?a_xparting ?l_xparting ?c_xparting ?k_xparting ?a_xsafety ?l_xsafety ?c_xsafety ?k_xsafety ?a_xshortest ?l_xshortest ?c_xshortest ?k_xshortest ?a_xtakers ?l_xtakers ?c_xtakers ?k_xtakers ?a_xways ?l_xways ?c_xways ?k_xways ?a_x_rows_of_numbers ?l_x_rows_of_numbers ?c_x_rows_of_numbers ?k_x_rows_of_numbers ?a_od ?l_od ?c_od ?k_od ?a_lc ?l_lc ?c_lc ?k_lc ?a_lt ?l_lt ?c_lt ?k_lt ?a_ll ?l_ll ?c_ll ?k_ll ?a_Cm ?cmk ?ckc ?a_cin ?i_cin ?l_cin ?c_cin ?k_cin ?a_law ?l_law ?c_law ?k_law
    (case a_RE => k_is)
    (case ops => k_is)
    (case n_int => k_is)
    (case n_len => k_is)
    (case n_isinstance => k_is)
    (case n_bool => k_is)
    (case n_any => k_is)
    (case n_zip => k_is)
    (case n_range => k_is)
    (case n_list => k_is)
    (case n_tuple => k_is)
    (case n_min => k_is)
    (case n_max => k_is)
    (case n_str => k_is)
    (case n_enumerate => k_is)
    (case n_all => k_is)
    (case n_set => k_is)
    (case n_sum => k_is)
    (case n_abs => k_is)
    (case n_sorted => k_is)
    (case n_dict => k_is)
    (case n_reversed => k_is)
    (case n_super => k_is)
    (case a_Rd => k_is)
    (case a_BP => k_is)
    (case x_BP => k_is)
    (case al_BP => kernel_rfl)
    (case sa_BP => k_is)
    (case ga_BP => k_is)
    (case gg_BP => k_is)
    (case nn_BP => k_is)
    (case ii_BP => k_is)
    (case ti_BP => k_is)
    (case kc_BP => k_is)
    (case eb_BP => k_is)
    (case ev_BP => k_is)
    (case et_BP => k_is)
    (case hd_BP => k_is)
    (case ow_BP => k_is)
    (case ic_BP => k_is)
    (case se_BP => (first | rfl | k_is))
    (case l_BP => k_is)
    (case cd_BP => k_is)
    (case lc_BP => k_is)
    (case v2_BP => (exact rfl))
    (case fi_BPe => (first | rfl | decide +kernel))
    (case lz_BP => k_is)
    (case a_BR => k_is)
    (case kc_BR => k_is)
    (case q_BR => k_exc)
    (case eb_BR => k_is)
    (case et_BR => k_is)
    (case ic_BR => k_is)
    (case se_BR => (first | rfl | k_is))
    (case a_BRs => k_is)
    (case x_BRs => k_is)
    (case al_BRs => kernel_rfl)
    (case sa_BRs => k_is)
    (case ga_BRs => k_is)
    (case gg_BRs => k_is)
    (case nn_BRs => k_is)
    (case ii_BRs => k_is)
    (case ti_BRs => k_is)
    (case kc_BRs => k_is)
    (case eb_BRs => k_is)
    (case ev_BRs => k_is)
    (case et_BRs => k_is)
    (case hd_BRs => k_is)
    (case ow_BRs => k_is)
    (case ic_BRs => k_is)
    (case se_BRs => (first | rfl | k_is))
    (case l_BRs => k_is)
    (case cd_BRs => k_is)
    (case lc_BRs => k_is)
    (case v2_BRs => (exact rfl))
    (case fi_BRse => (first | rfl | decide +kernel))
    (case lz_BRs => k_is)
    (case xm_BRs_BRs => (first | kernel_rfl | k_is))
    (case pg => k_is)
    (case hd => k_is)
    (case po => k_is)
    (case sa => k_is)
    (case mk => k_is)
    (case kc => k_is)
    (case np => k_is)
    (case ha => k_is)
    (case hn => k_is)
    (case htk => k_is)
    (case hm => k_is)
    (case me => kernel_rfl)
    (case a_init => k_is)
    (case i_init => k_is)
    (case l_init => k_is)
    (case c_init => k_is)
    (case k_init => k_is)
    (case a_CH => k_is)
    (case c_0 => k_is)
    (case cq0 => k_is)
    (case cr0 => k_is)
    (case cq1 => k_is)
    (case cr1 => k_is)
    (case cq2 => k_is)
    (case cr2 => k_is)
    (case cq3 => k_is)
    (case cr3 => k_is)
    (case cq4 => k_is)
    (case cr4 => k_is)
    (case cq5 => k_is)
    (case cr5 => k_is)
    (case cq6 => k_is)
    (case cr6 => k_is)
    (case cq7 => k_is)
    (case cr7 => k_is)
    (case no_non => kernel_rfl)
    (case no_int => kernel_rfl)
    (case no_bl => kernel_rfl)
    (case no_str => kernel_rfl)
    (case no_tup => kernel_rfl)
    (case no_lst => kernel_rfl)
    (case no_dct => kernel_rfl)
    (case no_rl => kernel_rfl)
    (case no_rt => kernel_rfl)
    (case a_MR => k_is)
    (case a_taken => k_is)
    (case l_taken => k_is)
    (case c_taken => k_is)
    (case k_taken => k_is)
    (case a_lparts => k_is)
    (case l_lparts => k_is)
    (case c_lparts => k_is)
    (case k_lparts => k_is)
    (case a_made => k_is)
    (case l_made => k_is)
    (case c_made => k_is)
    (case k_made => k_is)
    (case a_first => k_is)
    (case l_first => k_is)
    (case c_first => k_is)
    (case k_first => k_is)
    (case a_among => k_is)
    (case l_among => k_is)
    (case c_among => k_is)
    (case k_among => k_is)
    (case a_clash => k_is)
    (case l_clash => k_is)
    (case c_clash => k_is)
    (case k_clash => k_is)
    (case a_cr => k_is)
    (case l_cr => k_is)
    (case c_cr => k_is)
    (case k_cr => k_is)
    (case a_crs => k_is)
    (case l_crs => k_is)
    (case c_crs => k_is)
    (case k_crs => k_is)
    (case a_pair => k_is)
    (case l_pair => k_is)
    (case c_pair => k_is)
    (case k_pair => k_is)
    (case a_xparts => k_is)
    (case l_xparts => k_is)
    (case c_xparts => k_is)
    (case k_xparts => k_is)
    (case a_xwrite => k_is)
    (case l_xwrite => k_is)
    (case c_xwrite => k_is)
    (case k_xwrite => k_is)
    (case a_xfirst_stop => k_is)
    (case l_xfirst_stop => k_is)
    (case c_xfirst_stop => k_is)
    (case k_xfirst_stop => k_is)
    (case a_xmeans => k_is)
    (case l_xmeans => k_is)
    (case c_xmeans => k_is)
    (case k_xmeans => k_is)
    (case a_xtakes => k_is)
    (case l_xtakes => k_is)
    (case c_xtakes => k_is)
    (case k_xtakes => k_is)
    (case a_xcount => k_is)
    (case l_xcount => k_is)
    (case c_xcount => k_is)
    (case k_xcount => k_is)
    (case a_xwritten => k_is)
    (case l_xwritten => k_is)
    (case c_xwritten => k_is)
    (case k_xwritten => k_is)
    (case a_xalone => k_is)
    (case l_xalone => k_is)
    (case c_xalone => k_is)
    (case k_xalone => k_is)
    (case a_xsame => k_is)
    (case l_xsame => k_is)
    (case c_xsame => k_is)
    (case k_xsame => k_is)
    (case a_xoff => k_is)
    (case l_xoff => k_is)
    (case c_xoff => k_is)
    (case k_xoff => k_is)
    (case a_xtwo_numbers => k_is)
    (case l_xtwo_numbers => k_is)
    (case c_xtwo_numbers => k_is)
    (case k_xtwo_numbers => k_is)
    (case a_xcount_both => k_is)
    (case l_xcount_both => k_is)
    (case c_xcount_both => k_is)
    (case k_xcount_both => k_is)
    (case a_xmisread => k_is)
    (case l_xmisread => k_is)
    (case c_xmisread => k_is)
    (case k_xmisread => k_is)
    (case a_xparting => k_is)
    (case l_xparting => k_is)
    (case c_xparting => k_is)
    (case k_xparting => k_is)
    (case a_xsafety => k_is)
    (case l_xsafety => k_is)
    (case c_xsafety => k_is)
    (case k_xsafety => k_is)
    (case a_xshortest => k_is)
    (case l_xshortest => k_is)
    (case c_xshortest => k_is)
    (case k_xshortest => k_is)
    (case a_xtakers => k_is)
    (case l_xtakers => k_is)
    (case c_xtakers => k_is)
    (case k_xtakers => k_is)
    (case a_xways => k_is)
    (case l_xways => k_is)
    (case c_xways => k_is)
    (case k_xways => k_is)
    (case a_x_rows_of_numbers => k_is)
    (case l_x_rows_of_numbers => k_is)
    (case c_x_rows_of_numbers => k_is)
    (case k_x_rows_of_numbers => k_is)
    (case a_od => k_is)
    (case l_od => k_is)
    (case c_od => k_is)
    (case k_od => k_is)
    (case a_lc => k_is)
    (case l_lc => k_is)
    (case c_lc => k_is)
    (case k_lc => k_is)
    (case a_lt => k_is)
    (case l_lt => k_is)
    (case c_lt => k_is)
    (case k_lt => k_is)
    (case a_ll => k_is)
    (case l_ll => k_is)
    (case c_ll => k_is)
    (case k_ll => k_is)
    (case a_Cm => k_is)
    (case cmk => k_is)
    (case ckc => k_is)
    (case a_cin => k_is)
    (case i_cin => k_is)
    (case l_cin => k_is)
    (case c_cin => k_is)
    (case k_cin => k_is)
    (case a_law => k_is)
    (case l_law => k_is)
    (case c_law => k_is)
    (case k_law => k_is)
