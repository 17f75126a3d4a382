import PyProof.Rows.All
import Wide.All
import OpenK.AllK
import Wide.FinOn
import KE.KExcSuper
import HandS.ForMost
import HandS.Exc
import HandS.ExcOwn
import HandS.FStr
import HandS.WordsExc
import HandS.Ends
import HandS.TryOnly
import HandS.IsInst
import HandS.Zip
import HandS.Property
import HandS.NoneIn
import HandS.Codes
import HandS.TupAny
import HandS.CallSlots
import PySem.Challenge.RW_readersapart_k01_readers_refused
set_option Elab.async false
set_option linter.all false
set_option maxRecDepth 100000
set_option maxHeartbeats 8000000
/-! RaExc: the errors of the package that say super().__init__ of an f-string and keep one field. -/
namespace RaX
open PySem PySem.W PySem.Calls PyProof.Rows PySem.HandSPX
/-- the text of such an __init__: the field's name, the words ahead of it -/
def iA (fld : Str) (p1 p2 : Pos) : Arguments := { posonlyargs := [], args := [{ arg := "self", annotation := none, pos := p1 }, { arg := fld, annotation := none, pos := p2 }], vararg := none, kwonlyargs := [], kw_defaults := [], kwarg := none, defaults := [] }
structure Ps where
  a : Pos
  b : Pos
  c : Pos
  d : Pos
  e : Pos
  f : Pos
  g : Pos
  h : Pos
  i : Pos
  j : Pos
  k : Pos
  l : Pos
  m : Pos
def iB (fld said : Str) (p : Ps) : List Stmt :=
  [.Expr (.Call (.Attribute (.Call (.Name "super" p.a) [] [] p.b) "__init__" p.c) [.JoinedStr [.Constant (.str said) 0 p.d, .FormattedValue (.Name fld p.e) (-1) none p.f] p.g] [] p.h) p.i,
   .Assign [.Attribute (.Name "self" p.j) fld p.k] (.Name fld p.l) p.m]
def iS (fld : Str) : Scope := { kind := .function, names := [(PySem.Str.ofString "self", .local), (fld, .local), (PySem.Str.ofString "__class__", .free), (PySem.Str.ofString "super", .globalImplicit)], isGenerator := false, isCoroutine := false, more := [] }
/-- the field's name is none of the others -/
structure FldOk (fld : Str) : Prop where
  a : (("self" : Str) == fld) = false
  b : ((fld : Str) == ("self" : Str)) = false
  c : (("__class__" : Str) == fld) = false
  d : (("super" : Str) == fld) = false
  e : ((fld : Str) == ("__debug__" : Str)) = false
  bi : ∀ (qual : Str) (p1 p2 : Pos) (body : List Stmt) (scope : Scope) (doc pm : Value) (an : Option Addr) (cdv ct : Value) (cc : Addr) (a b : Value), bindArgs (ksFn "__init__" qual (iA fld p1 p2) body scope .none .none doc pm an cdv ct cc) ⟨[a, b], []⟩ = pure [(("self" : Str), a), (fld, b)]
/-- a value that stands well in an f-string -/
def FmtOk (v : Value) : Prop := ∀ (prog : Program) (w : World) (A : Around) (E : Value → Shared → Prop) (s : Shared) (Q : Value → Shared → Prop),
  (∀ (y : Str) (tk : Tok) (tk' : Nat), y.length ≤ 2000 → Q (.str y tk) { s with toks := tk' }) → wpAny (model prog w) A (formatField v Str.empty) Q E s
theorem fmt_str {y : Str} {t : Tok} (h : y.length ≤ 2000) : FmtOk (.str y t) := fun prog w A E s Q q =>
  wpAny_formatField_str (q y t s.toks h) (q y s.toks (s.toks + 1) h) (by rw [sizeLine_eq]; omega)
/-- what the written part says of the class at C and of its __init__ at fI; x, the class's name; fld, its field -/
structure BadTxt (P : Program) (K : Frag) (mg : Str → Option Value) (x fld : Str) (C fI : Addr) : Prop where
  gC : mg x = some (.ref C)
  cls : ∃ nm q N bs bm sn sub ab col dd k0 k1 k2 k3 k5, K.lookup C = some (excClassObj nm q C N bs bm true sn sub ab col dd k0 k1 k2 k3 k5 "ValueError.__new__") ∧ refsVE bm = true ∧ alongIn K "__init__" bm = some (some (.builtin "ValueError.__init__"))
  sa : findIn K (.ref C) "__setattr__" = some (some (.builtin "object.__setattr__"))
  ga : findIn K (.ref C) "__getattribute__" = some (some (.builtin "BaseException.__getattribute__"))
  gg : findIn K (.ref C) "__getattr__" = some none
  noN : findIn K (.ref C) fld = some none
  iC : findIn K (.ref C) "__init__" = some (some (.ref fI))
  tC : typeIn K (.ref fI) = some (.type "function")
  kC : keepIn K (.ref C) = true
  exC : subIn K (.ref C) (.type "BaseException") = some true
  vaC : subIn K (.ref C) (.type "ValueError") = some true
  tyC : typeIn K (.ref C) = some (.type "type")
  hdC : hasDictIn K C = true
  own : mroIn K C (.ref C) = some true
  ops : nsIn K cStatics "thirdparty.any" = some none
  sup : mg "super" = none
  fok : FldOk fld
  top : (P.main.scope.names.lookup ("super" : Str)).isSome = false
  fn : ∃ (qual said : Str) (oc : Value) (od : Option Addr) (doc pm : Value) (an : Option Addr) (cda cc : Addr) (ct : Value) (osl : Array (Option Value)) (p1 p2 : Pos) (p : Ps) (vs : Array Value) (file : Str) (tf : Tok) (ccl cl : Value) (cdd cld : Option Addr) (ccs csl : Array (Option Value)),
    K.lookup fI = some ⟨oc, od, .func (ksFn "__init__" qual (iA fld p1 p2) (iB fld said p) (iS fld) .none .none doc pm an (.ref cda) ct cc), osl⟩ ∧ codeIn K (.ref cda) qual = true ∧ said.length ≤ 1000 ∧ (p.c.endLine == p.h.line) = true ∧
    K.lookup cda = some ⟨ccl, cdd, .fields vs, ccs⟩ ∧ vs[2]? = some (.str file tf) ∧ ((P.main.file : Str) == file) = true ∧ K.lookup cc = some ⟨cl, cld, .cell (some (.ref C)), csl⟩
/-- what its __init__ leaves of a fresh exception at x -/
structure InitEnd (h h' : Heap) (x C dx t1 : Addr) (fld : Str) (v : Value) : Prop where
  keep : ∀ b o, b ≠ x → h.get? b = some o → h'.get? b = some o
  obj : h'.get? x = some { cls := .ref C, dict := some dx, data := .fields #[.ref t1, .none, .none, .none, .bool false, .none] }
  dbig : h.objs.size ≤ dx
  dne : dx ≠ x
  ns : h'.Ns1 dx (fun y => if y = fld then some v else none)
theorem one_le : 1 ≤ sizeLine := by rw [sizeLine_eq]; decide
theorem lk1 {fld : Str} (F : FldOk fld) : (iS fld).names.lookup ("self" : Str) = some .local := rfl
theorem lk2 {fld : Str} (F : FldOk fld) : (iS fld).names.lookup fld = some .local := by
  have h := F.b
  show List.lookup fld [(("self" : Str), NameKind.local), (fld, NameKind.local), (("__class__" : Str), NameKind.free), (("super" : Str), NameKind.globalImplicit)] = _
  simp [List.lookup, h]
theorem lk3 {fld : Str} (F : FldOk fld) : (iS fld).names.lookup ("__class__" : Str) = some .free := by
  have h := F.c
  have h2 : (("__class__" : Str) == ("self" : Str)) = false := by decide +kernel
  show List.lookup ("__class__" : Str) [(("self" : Str), NameKind.local), (fld, NameKind.local), (("__class__" : Str), NameKind.free), (("super" : Str), NameKind.globalImplicit)] = _
  simp [List.lookup, h, h2]
theorem lk4 {fld : Str} (F : FldOk fld) : (iS fld).names.lookup ("super" : Str) = some .globalImplicit := by
  have h := F.d
  have h2 : (("super" : Str) == ("self" : Str)) = false := by decide +kernel
  have h3 : (("super" : Str) == ("__class__" : Str)) = false := by decide +kernel
  show List.lookup ("super" : Str) [(("self" : Str), NameKind.local), (fld, NameKind.local), (("__class__" : Str), NameKind.free), (("super" : Str), NameKind.globalImplicit)] = _
  simp [List.lookup, h, h2, h3]
theorem bnd1 {fld : Str} (F : FldOk fld) {x : Addr} {v : Value} : List.lookup ("self" : Str) [(("self" : Str), Value.ref x), (fld, v)].reverse = some (.ref x) := by
  have h := F.a
  show List.lookup ("self" : Str) [(fld, v), (("self" : Str), Value.ref x)] = _
  simp [List.lookup, h]
theorem bnd2 {fld : Str} {x : Addr} {v : Value} : List.lookup fld [(("self" : Str), Value.ref x), (fld, v)].reverse = some v := by
  show List.lookup fld [(fld, v), (("self" : Str), Value.ref x)] = _
  simp [List.lookup]
theorem ldN {M : Model} {s : Shared} {env : Env} {A : Around} {E : Value → Shared → Prop} {m : Str → Option Value} {x : Str} {pos : Pos} {v : Value} {Q : Value → Shared → Prop} (hn : s.heap.Ns env.locals m) (hv : m x = some v) (h : Q v s)
    (hk : env.scope.kind = .function) (hl : env.kindOf x = some .local) (hd : (x == ("__debug__" : Str)) = false) : wpAny M A (eval (.Name x pos) env) Q E s := wpAny_Name (wpAny_loadName_local hk hl hn hv h) hd
section
variable {prog : Program} {w : World} {A : Around} {E : Value → Shared → Prop} {R : Result → Shared → Prop} {K : Frag} {mg : Str → Option Value} {C fI : Addr} {nmC fld : Str}
/-- the built-in __init__ bound to the exception, called -/
theorem mw_call {hh : Heap} {g : Array GenState} {d : Drawn} {tk : Nat} {os : OsState} {u e t0 : Addr} {rest : List Value} {Q : Value → Shared → Prop}
    {nm q : Str} {N : Addr} {bs bm : List Value} {sn : List Str} {sub : List Value} {ab : Bool} {col : Option Bool} {dd : Option Addr} {k0 k1 k2 k3 k5 : Option Value}
    (hC : hh.get? C = some (excClassObj nm q C N bs bm true sn sub ab col dd k0 k1 k2 k3 k5 "ValueError.__new__")) (he : hh.get? e = some (excO C t0)) (hu : hh.get? u = some (kxs_mw "ValueError.__init__" e)) (hz : rest.length ≤ sizeLine)
    (hq : ∀ h' t1, (∀ b o, b ≠ e → hh.get? b = some o → h'.get? b = some o) → h'.get? e = some (excO C t1) → Q .none ⟨h', g, d, tk, os⟩) :
    wpAny (model prog w) A (call (.ref u) rest) Q E ⟨hh, g, d, tk, os⟩ := by
  refine wpAny_call (codeAny_of_tree ?_)
  show wpAny _ A.in1 (callAny (.ref u) ⟨rest, []⟩) _ _ _
  simp only [callAny]
  refine wpAny_bind (wpAny_load hu ?_)
  simp only [kxs_mw, show (Value.type "method-wrapper" == Value.type "method" || Value.type "method-wrapper" == Value.type "builtin_function_or_method" || Value.type "method-wrapper" == Value.type "method-wrapper") = true by decide, if_true]
  refine KFB.if_so (by decide) ?_
  refine wpAny_bind (check_bound_init F.excBase_ValueError.toExcCallFacts hC he rfl ?_)
  refine wpAny_bind (wpAny_pure (wpAny_pure ?_))
  refine ⟨plainId_quiet F.excBase_ValueError.init.plain _, codeAny_builtin F.excBase_ValueError.initEntry ?_⟩
  refine exc_init_tree (cls := .ref C) (t0 := t0) (dv := none) (c2 := .none) (c3 := .none) (b4 := .bool false) he hz fun h' k hx _ => ?_
  exact hq h' _ k hx
theorem mw_callWith {M : Model} {pos : Pos} {u x : Addr} {s : Shared} {env : Env} {e : Expr} {Q : Value → Shared → Prop}
    (h : wpAny M A (spliced (backTo pos (starEach (e :: []) env))) (fun vs s₁ => KxsAt "ValueError.__init__" u x s₁.heap ∧ wpAny M A (call (.ref u) vs) Q E s₁) E s)
    (he : starEach (e :: []) env = (false, eval e env) :: starEach [] env := by rfl) (hplain : (backTo pos (starEach [] env)).any (·.1) = false := by rfl) :
    wpAny M A (callWith pos (.ref u) [] (backTo pos (starEach (e :: []) env)) []) Q E s := by
  rw [he] at h ⊢
  refine kxs_callWith (i := "ValueError.__init__") (x := x) (by show (false || (backTo pos (starEach [] env)).any (·.1)) = false; rw [hplain]; rfl) ?_
  exact evalArgs_plain h
theorem super_call_eq {p0 p1 apos pos : Pos} {name : Str} {e : Expr} {env : Env} (h : (apos.endLine == pos.line) = true) (hf : methodCallForm 1 (backTo pos (starEach [e] env)) [] = true) :
    eval (.Call (.Attribute (.Call (.Name "super" p0) [] [] p1) name apos) [e] [] pos) env = (do
      let ov ← attributeBase (.Call (.Name "super" p0) [] [] p1) name env (eval (.Call (.Name "super" p0) [] [] p1) env)
      standAt apos.atName
      let (f, first) ← holding [ov] (getMethod ov name (do return (← importBound (.Call (.Name "super" p0) [] [] p1) env).getD true))
      callWith pos f first (backTo pos (starEach [e] env)) []) := by
  have e1 : ∀ few, methodCallPos few (.Call (.Name "super" p0) [] [] p1) env apos pos = pure pos := fun few => by
    unfold methodCallPos
    rw [h, Bool.or_true]
    rfl
  rw [arm_eval_Call]
  unfold methodCall
  show (do
      let ov ← attributeBase (.Call (.Name "super" p0) [] [] p1) name env (eval (.Call (.Name "super" p0) [] [] p1) env)
      standAt apos.atName
      let (f, first) ← holding [ov] (calleeOf (methodCallForm 1 (backTo pos (starEach [e] env)) []) (.Call (.Name "super" p0) [] [] p1) env ov name)
      let callPos ← methodCallPos (methodCallForm 1 (backTo pos (starEach [e] env)) []) (.Call (.Name "super" p0) [] [] p1) env apos pos
      callWith callPos f first (backTo pos (starEach [e] env)) []) = _
  rw [hf]
  simp only [e1]
  rfl
theorem bad_init (T : BadTxt prog K mg nmC fld C fI) {s : Shared} {x t0 : Addr} {v : Value} (hv : FmtOk v) (X : K.In s.heap) (hg : s.heap.Ns mainGlobals mg) (hb : ∃ mb, s.heap.Ns builtinsNs mb ∧ ∀ y : Str, y ≠ "__name__" → mb y = bootBuiltins y)
    (hlim : s.heap.NoLimit) (hx : s.heap.get? x = some (excO C t0)) (hnx : K.lookup x = none) (hroom : A.depth < recursionLimit)
    (hq : ∀ h' tk dx t1, InitEnd s.heap h' x C dx t1 fld v → R (.ok (.ret .none)) { s with heap := h', toks := tk }) :
    codeAny (model prog w) A (.call (.ref fI) ⟨[.ref x, v], []⟩) R s := by
  obtain ⟨qual, said, oc, od, doc, pm, an, cda, cc, ct, osl, p1, p2, p, vs, file, tf, ccl, cl, cdd, cld, ccs, csl, ho, hcd, hsaid, hps, hcda, hvs, hfile, hcc⟩ := T.fn
  obtain ⟨nm, q, N, bs, bm, sn, sub, ab, col, dd, k0, k1, k2, k3, k5, hC, hbm, hal⟩ := T.cls
  have hcl : clsIn K C = some { name := nm, bases := bs, mro := .ref C :: bm, ns := N, qualname := q, hasDict := true, slotNames := sn, subclasses := sub, abstract := ab, collection := col, hasDel := false } := by unfold clsIn; rw [hC] <;> rfl
  obtain ⟨mb, hb1, hb2⟩ := hb
  refine ks_codeAny_call_defAt (fd := ksFn "__init__" qual (iA fld p1 p2) (iB fld said p) (iS fld) .none .none doc pm an (.ref cda) ct cc) (body := iB fld said p) (binds := [("self", .ref x), (fld, v)]) hroom (X _ _ ho) rfl hlim (codeRec_of X hcd) rfl
    (BindsTo.of_eq ?hbind) ?hcell ?hloc (fun h₁ hns hk => ?_) rfl rfl rfl
  case hbind => exact T.fok.bi _ _ _ _ _ _ _ _ _ _ _ _ _
  case hcell =>
    intro y hy
    have hy' : y = (("self" : Str), NameKind.local) ∨ y = (fld, NameKind.local) ∨ y = (("__class__" : Str), NameKind.free) ∨ y = (("super" : Str), NameKind.globalImplicit) := by
      have z : y ∈ [(("self" : Str), NameKind.local), (fld, NameKind.local), (("__class__" : Str), NameKind.free), (("super" : Str), NameKind.globalImplicit)] := hy
      simpa using z
    rcases hy' with rfl | rfl | rfl | rfl <;> exact fun z => nomatch z
  case hloc =>
    intro y hy
    have hy' : y = (("self" : Str), Value.ref x) ∨ y = (fld, v) := by simpa using hy
    rcases hy' with rfl | rfl
    · exact lk1 T.fok
    · exact lk2 T.fok
  have X1 : K.In h₁ := X.keeps hk
  have hx1 := hk _ _ hx
  have xC : x ≠ C := fun z => by rw [z, hC] at hnx; cases hnx
  have hCo := X1 _ _ hC
  have I1 : InstAt h₁ x (excO C t0) C none := ⟨hx1, rfl, rfl, trivial⟩
  obtain ⟨hh, g, d, t, os⟩ := s
  -- super().__init__(f'..')
  refine ks_wpAt_execs_cons (ks_wpAt_Expr_any (ks_wpAt_MethodCall ?_ (super_call_eq hps rfl)))
  refine ks_wpAt_super_base (env := ksEnv qual (iS fld) hh.objs.size fI (.ref cda) cc) (lk4 T.fok) (lk3 T.fok) (by decide) rfl (X1 _ _ ho) rfl rfl rfl (X1 _ _ hcda) rfl hvs hfile T.top ?_
  refine ks_loadName_global rfl (lk4 T.fok) (loadGlobal_builtin (env := ksEnv qual (iS fld) hh.objs.size fI (.ref cda) cc) (hg.keeps hk) T.sup (hb1.keeps hk) ((hb2 _ (by decide +kernel)).trans (by first | boot_by_name | rfl | kernel_rfl)) ⟨rfl, ?_⟩)
  refine wpAny_loadName_free rfl (lk3 T.fok) rfl ⟨_, X1 _ _ hcc, rfl⟩ ?_
  refine wpAny_loadName_local rfl (lk1 T.fok) hns (bnd1 T.fok) ?_
  refine ks_wpAny_isType_cls hCo rfl ⟨rfl, ?_⟩
  refine ks_wpAny_call_super hCo rfl hx1 rfl (fun c e => by cases e) (looks_mroIn X1 T.own) (fun h2 e2 k2 => ?_)
  have X2 : K.In h2 := X1.keeps k2
  have hx2 := k2 _ _ hx1
  have I2 : InstAt h2 x (excO C t0) C none := ⟨hx2, rfl, rfl, trivial⟩
  have hI : Looks (model prog w) h2 (isInstance (.ref x) (.type "ValueError")) true := I2.type.andThen (looks_subIn X2 T.vaC)
  refine kxs_getMethod kxs_ValueError e2 (looks_opaque X2 T.ops) (l₀ := .ref C :: bm) (l := bm) ?_ ?_ X2 hal hI xC (by decide) ?_
  · exact fun A Q E s k q => wpAny_bind ((looks_clsIn X2 hcl) A _ E s k (wpAny_pure q))
  · simp [List.dropWhile_cons]
  have e3 : (h2.push (kxs_mw "ValueError.__init__" x)).get? h2.objs.size = some (kxs_mw "ValueError.__init__" x) := Heap.get?_push_at rfl rfl
  have k3 : ∀ b o, h2.get? b = some o → (h2.push (kxs_mw "ValueError.__init__" x)).get? b = some o := fun b o e => Heap.get?_push_of_some _ e
  have k23 : ∀ b o, h₁.get? b = some o → (h2.push (kxs_mw "ValueError.__init__" x)).get? b = some o := fun b o e => k3 b o (k2 b o e)
  have hns3 := hns.keeps k23
  show wpAny _ _ (callWith p.h (.ref h2.objs.size) [] (backTo p.h (starEach [.JoinedStr [.Constant (.str said) 0 p.d, .FormattedValue (.Name fld p.e) (-1) none p.f] p.g] (ksEnv qual (iS fld) hh.objs.size fI (.ref cda) cc))) []) _ _ _
  refine mw_callWith (x := x) ?_
  show wpAny _ _ (spliced ((false, eval (.JoinedStr [.Constant (.str said) 0 p.d, .FormattedValue (.Name fld p.e) (-1) none p.f] p.g) (ksEnv qual (iS fld) hh.objs.size fI (.ref cda) cc)) :: backTo p.h (starEach [] (ksEnv qual (iS fld) hh.objs.size fI (.ref cda) cc)))) _ _ _
  have l1 : (Str.empty ++ said).length ≤ 1000 := by
    rw [Str.length_append]
    have z : Str.empty.length = 0 := rfl
    omega
  refine spliced_cons (wpAny_JoinedStr ?_)
  refine Constant_str ⟨said, _, rfl, by rw [sizeLine_eq]; omega, ?_⟩
  refine wpAny_FormattedValue_plain (ldN hns3 bnd2 ?_ rfl (lk2 T.fok) T.fok.e)
  refine hv _ _ _ _ _ _ fun y tk tk' hy => ⟨y, tk, rfl, ?_, ?_, ?_⟩
  · rw [Str.length_append, sizeLine_eq]
    omega
  · rw [Str.length_append, sizeLine_eq]
    omega
  refine spliced_nil ⟨e3, ?_⟩
  have X3 : K.In (h2.push (kxs_mw "ValueError.__init__" x)) := X2.keeps k3
  refine mw_call (X3 _ _ hC) (k3 _ _ hx2) e3 one_le fun h4 t4 k4 hx4 => ?_
  -- self.fld = fld
  have nL : hh.objs.size ≠ x := Nat.ne_of_gt (Heap.lt_size hx)
  have kx4 : ∀ b o, b ≠ x → h₁.get? b = some o → h4.get? b = some o := fun b o hb e => k4 b o hb (k23 b o e)
  have hns4 : h4.Ns hh.objs.size fun y => List.lookup y [(("self" : Str), Value.ref x), (fld, v)].reverse := by
    obtain ⟨oL, es, ep, hL, r⟩ := hns
    exact ⟨oL, es, ep, kx4 _ _ nL hL, r⟩
  have X4 : K.In h4 := fun a o e => kx4 a o (fun z => by rw [z, hnx] at e; cases e) (X1 a o e)
  refine ks_wpAt_execs_cons (wpAt_of_wpAny (plainObj_wpAny_Assign_Attribute ?_))
  refine ldN hns4 bnd2 (ldN hns4 (bnd1 T.fok) ?_ rfl (lk1 T.fok) (by decide)) rfl (lk2 T.fok) T.fok.e
  refine set_plain X4 (ox := excO C t4) (od := none) ⟨hx4, rfl, rfl, trivial⟩ T.sa ?_
  refine exc_osa X4 hx4 hcl (show refsVE (.ref C :: bm) = true from hbm) rfl T.noN (fun h5 tk5 dx k5 dn dne hx5 hn5 => ?_)
  show PySem.wpAt _ _ _ (execs [] _) _ _ _
  refine wpAt_of_wpAny (wpAny_execs_nil (hq h5 tk5 dx t4 ⟨fun b o hb e => k5 b o hb (kx4 b o hb (hk b o e)), hx5, ?_, dne, hn5⟩))
  have z1 : hh.objs.size < h4.objs.size := hns4.lt
  exact Nat.le_of_lt (Nat.lt_of_lt_of_le z1 dn)
/-- such an error, made -/
structure OwnMade (h h' : Heap) (e C d : Addr) (fld : Str) (v : Value) : Prop where
  keep : ∀ b o, h.get? b = some o → h'.get? b = some o
  new : h.objs.size ≤ e
  obj : ∃ oe vs, h'.get? e = some oe ∧ oe.cls = .ref C ∧ oe.dict = some d ∧ oe.data = .fields vs ∧ vs[1]? = some .none
  dbig : h.objs.size ≤ d
  dne : d ≠ e
  ns : h'.Ns1 d (fun y => if y = fld then some v else none)
theorem bad_made (T : BadTxt prog K mg nmC fld C fI) {s : Shared} {v : Value} (hv : FmtOk v) (X : K.In s.heap) (hg : s.heap.Ns mainGlobals mg) (hb : ∃ mb, s.heap.Ns builtinsNs mb ∧ ∀ y : Str, y ≠ "__name__" → mb y = bootBuiltins y)
    (hlim : s.heap.NoLimit) (hroom : A.depth + 1 < recursionLimit) (hq : ∀ h' tk e d, OwnMade s.heap h' e C d fld v → R (.ok (.ret (.ref e))) { s with heap := h', toks := tk }) :
    codeAny (model prog w) A (.call (.ref C) ⟨[v], []⟩) R s := by
  obtain ⟨nm, q, N, bs, bm, sn, sub, ab, col, dd, k0, k1, k2, k3, k5, hC, hbm, hal⟩ := T.cls
  obtain ⟨hp, g, dr, tk, os⟩ := s
  have k : ∀ b o, hp.get? b = some o → ((hp.push (kdv_tup [v])).push (excO C hp.objs.size)).get? b = some o := fun b o e => Heap.get?_push_of_some _ (Heap.get?_push_of_some _ e)
  have hget : ((hp.push (kdv_tup [v])).push (excO C hp.objs.size)).get? (hp.objs.size + 1) = some (excO C hp.objs.size) := by heap_get
  have hnx : K.lookup (hp.objs.size + 1) = none := by
    cases e : K.lookup (hp.objs.size + 1) with
    | none => rfl
    | some o =>
      have z : hp.get? (hp.objs.size + 1) = some o := X _ _ e
      exact absurd (Nat.lt_of_succ_lt (Heap.lt_size z)) (Nat.lt_irrefl _)
  obtain ⟨mb, hb1, hb2⟩ := hb
  refine call_own F.excBase_ValueError (fun X => refsVE_contains X bm hbm) (X _ _ hC) (looks_findIn X T.iC) (fun self => bind_fn X self T.tC) one_le ?_
  refine bad_init (s := ⟨(hp.push (kdv_tup [v])).push (excO C hp.objs.size), g, dr, tk, os⟩) T hv (X.keeps k) (hg.keeps k) ⟨mb, hb1.keeps k, hb2⟩ (hlim.keeps k) hget hnx ?_ fun h' tk' dx t1 I => ?_
  · show A.depth + 1 < recursionLimit
    exact hroom
  · have old : ∀ b o, hp.get? b = some o → h'.get? b = some o := fun b o e => I.keep b o (Nat.ne_of_lt (Nat.lt_succ_of_lt (Heap.lt_size e))) (k b o e)
    have z : hp.objs.size + 1 + 1 ≤ dx := by
      have q := I.dbig
      first
        | exact q
        | (rw [Heap.size_push, Heap.size_push] at q; exact q)
        | (simpa only [Heap.size_push] using q)
    exact ⟨rfl, hq h' tk' (hp.objs.size + 1) dx ⟨old, Nat.le_succ _, ⟨_, _, I.obj, rfl, rfl, rfl, rfl⟩, Nat.le_trans (Nat.le_trans (Nat.le_succ _) (Nat.le_succ _)) z, I.dne, I.ns⟩⟩
end
end RaX
namespace RaX
open PySem PySem.Spec PyProof.Rows L2
theorem relO_one {fld : Str} {v : V} {v' : Value} (r : RelV v v') (f : Str) : RelO (List.lookup f [(fld, v)]) (if f = fld then some v' else none) := by
  by_cases hw : f = fld
  · subst hw
    rw [if_pos rfl]
    have q : List.lookup f [(f, v)] = some v := by simp [List.lookup]
    rw [q]
    exact r
  · rw [if_neg hw]
    have qw : (f == fld) = false := by simpa using hw
    have q2 : List.lookup f [(fld, v)] = none := by simp [List.lookup, qw]
    rw [q2]
    trivial
/-- a value that may stand in such an error -/
def VOk (v : V) : Prop := ∀ u, RelV v u → FmtOk u
theorem vok_str {y : Str} (h : y.length ≤ 2000) : VOk (.str y) := fun u r => by
  obtain ⟨t, rfl⟩ := r
  exact fmt_str h
section
variable {X : Cx} {C fI : Addr} {nmC fld : Str}
/-- Bad(e) -/
def tMkBad (C : Addr) (fld : Str) (ta : TA) : L2.St → Hp → XK → Prop := fun σ H Q => ta σ H fun vs H1 => ∃ v, vs = [v] ∧ VOk v ∧ ∀ d, H1 d = none → Q (.ref C) (some d) (upd H1 d (.xd [(fld, v)]))
theorem pmk_bad {a : Expr} {ta : TA} {p pos : Pos} {k : Nat} (T : BadTxt X.prog X.K X.mg nmC fld C fI) (hr : Room k X.A) (ha : PA X [a] ta) (hg : Gl X nmC)
    (hdb : (nmC == ("__debug__" : Str)) = false := by decide) (he : starEach (a :: []) X.env = (false, eval a X.env) :: starEach [] X.env := by rfl) (hpl : (backTo pos (starEach [] X.env)).any (·.1) = false := by rfl) :
    PMk X (.Call (.Name nmC p) [a] [] pos) (tMkBad C fld ta) := by
  intro pins s σ H Q I h
  refine wpAny_Call_Name_kw (ld_glob I hg T.gC ?_ hdb)
  refine PySem.W.callWith_K (h₀ := X.base) I.ok.mod.kin T.kC (thn (ha.run pos pins s σ H _ I h) fun us s1 hh => ?_) he hpl
  obtain ⟨vs, H1, I1, r1, v, ev, hvk, q1⟩ := hh
  subst ev
  refine ⟨I1.kIn, ?_⟩
  cases r1 with
  | cons rv rn =>
    rename_i v' us'
    cases rn
    show wpAny _ _ (call (.ref C) [v']) _ _ _
    have hlim := I1.nolimit
    have hG := I1.mod.glob.keeps I1.bk
    have hB : ∃ mb, s1.heap.Ns builtinsNs mb ∧ ∀ y : Str, y ≠ "__name__" → mb y = bootBuiltins y := by
      obtain ⟨mb, b1, b2⟩ := I1.mod.blt
      exact ⟨mb, b1.keeps I1.bk, b2⟩
    obtain ⟨hp, g, dr, tk, os⟩ := s1
    refine wpAny_call (bad_made T (hvk _ rv) I1.kIn hG hB hlim (by have := hr.dp; omega) fun h' tk' e d M => ?_)
    show MkP X pins σ Q (.ref e) ⟨h', g, dr, tk', os⟩
    obtain ⟨oe, fv, hoe, hc, hd, hdat, h1⟩ := M.obj
    have hns := M.ns
    obtain ⟨G', g1, g2⟩ := restrict h' fun b => decide (b ≠ e)
    have gk : ∀ b, b ≠ e → G'.get? b = h'.get? b := fun b hb => g1 b (decide_eq_true hb)
    have ge : G'.get? e = none := g2 e (by simp)
    have old : ∀ b o, hp.get? b = some o → G'.get? b = some o := fun b o q => (gk b (Nat.ne_of_lt (Nat.lt_of_lt_of_le (Heap.lt_size q) M.new))).trans (M.keep b o q)
    have ob : ObjOk X.prog X.w (upd H1 d (.xd [(fld, v)])) G' d (.xd [(fld, v)]) :=
      ⟨_, hns.at (fun o q => (gk d M.dne).trans q), fun f => relO_one rv f⟩
    have J : Inv X pins σ (upd H1 d (.xd [(fld, v)])) ⟨G', g, dr, tk', os⟩ := I1.laid (t' := tk') old M.dbig ob
    refine ⟨e, oe, fv, ⟨G', g, dr, tk', os⟩, _, .ref C, some d, rfl, J, fun b o q => ?_, ge, hoe, ⟨hc, hd⟩, hdat, h1, ?_, rfl, I1.bare, raises_own T.exC T.tyC, q1 d (I1.hok.fresh M.dbig)⟩
    · by_cases hb : b = e
      · have q' : G'.get? b = some o := q
        rw [hb, ge] at q'; cases q'
      · exact (gk b hb).symm.trans q
    · rw [upd_ne (Ne.symm M.dne)]
      exact I1.hok.fresh M.new
/-- raise Bad(e) -/
def tRaiseBad (C : Addr) (fld : Str) (W : WX) (ta : TA) : TS := fun _ σ H => tMkBad C fld ta σ H fun cls d H' => W cls d σ H'
theorem ps_raiseBad {a : Expr} {ta : TA} {W : WX} {p pos pos2 : Pos} {k : Nat} (hc : X.calm = true) (T : BadTxt X.prog X.K X.mg nmC fld C fI) (hr : Room k X.A) (tk : Takes X W) (ha : PA X [a] ta) (hg : Gl X nmC)
    (hdb : (nmC == ("__debug__" : Str)) = false := by decide) (he : starEach (a :: []) X.env = (false, eval a X.env) :: starEach [] X.env := by rfl) (hpl : (backTo pos (starEach [] X.env)).any (·.1) = false := by rfl) :
    PS X (.Raise (some (.Call (.Name nmC p) [a] [] pos)) none pos2) (tRaiseBad C fld W ta) := ps_raise hc tk (pmk_bad T hr ha hg hdb he hpl)
/-- e.fld, e the exception that the suite holds (at a; its class cls, its dict d) -/
def tByBad (C : Addr) (fld : Str) (a : Addr) (cls : Value) (d : Option Addr) (te : TE) : TE := fun σ H Q => te σ H fun x H1 => x = .ref a ∧ cls = .ref C ∧ ∃ (dd : Addr) (v : V), d = some dd ∧ H1 dd = some (.xd [(fld, v)]) ∧ Q v H1
theorem pe_byBad {a : Addr} {oe : Obj} {cls : Value} {d : Option Addr} {pn : List (Addr × Obj)} {e : Expr} {te : TE} {pos : Pos} (T : BadTxt X.prog X.K X.mg nmC fld C fI) (hz : Zc cls d oe) (hf : ∃ vs, oe.data = .fields vs) (he : PE (X.suite a ((a, oe) :: pn)) e te)
    (hb : attributeBase e fld X.env (eval e X.env) = eval e X.env := by rfl) :
    PE (X.suite a ((a, oe) :: pn)) (.Attribute e fld pos) (tByBad C fld a cls d te) := by
  refine ⟨fun pins s σ H Q I h => ?_⟩
  refine attr_of hb (thn (he.run pins s σ H _ I h) fun u s1 hh => ?_)
  obtain ⟨x, H1, I1, rx, ex, ec, dd, v, ed, ea, q⟩ := hh
  subst ex
  obtain rfl : u = Value.ref a := rx
  subst ec
  subst ed
  obtain ⟨ha, _⟩ := I1.pin (a, oe) (List.mem_append_left _ List.mem_cons_self)
  obtain ⟨vs, hd⟩ := hf
  have hx : ObjOk X.prog X.w H1 s1.heap dd (.xd [(fld, v)]) := I1.hok dd _ ea
  obtain ⟨mA, hns, hr⟩ := hx
  obtain ⟨od, ho, hl⟩ := lookIn_ns hns
  have l : List.lookup fld [(fld, v)] = some v := by simp [List.lookup]
  obtain ⟨u, hu, ru⟩ := RelO.some_of (v := v) (o := mA fld) (by rw [← l]; exact hr fld)
  have J : PySem.W.InstAt s1.heap a oe C (some od) := ⟨ha, hz.1, by unfold PySem.W.notCls; rw [hd] <;> rfl, by rw [hz.2]; exact ho⟩
  exact HandSPX.exc_get I1.kIn J T.ga T.gg T.exC (PySem.W.findObj_own T.hdC T.noN rfl (by rw [hl, hu])) (handed_of ru) ⟨v, H1, I1.tok _, ru, q⟩
end
end RaX

/-! RaLib: what the laws over readersapart share: the row of draws, the parts of a reader, small rules. -/
namespace Ra
open PySem PySem.Spec PyProof.Rows L2 RaX
/-! ### heaps but for one address -/
def But (a : Addr) (H H' : Hp) : Prop := ∀ b o, b ≠ a → H b = some o → H' b = some o
theorem But.refl {a : Addr} {H : Hp} : But a H H := fun _ _ _ h => h
theorem But.trans {a : Addr} {H H1 H2 : Hp} (x : But a H H1) (y : But a H1 H2) : But a H H2 := fun b o h e => y b o h (x b o h e)
theorem But.upd {a : Addr} {H : Hp} {o : HO} : But a H (L2.upd H a o) := fun b u h e => by rw [upd_ne h]; exact e
theorem But.new {a p : Addr} {H : Hp} {o : HO} (n : H p = none) : But a H (L2.upd H p o) := fun b u h e => by rw [upd_ne (ne_of_none e n)]; exact e
theorem But.same {a : Addr} {H H' : Hp} (s : Same H H') : But a H H' := fun b o _ e => s b o e
theorem Same.new {p : Addr} {H : Hp} {o : HO} (n : H p = none) : Same H (L2.upd H p o) := fun b u e => by rw [upd_ne (ne_of_none e n)]; exact e
/-- a list of our own is changed beside -/
theorem But.other {a l : Addr} {H : Hp} {o : HO} (n : H l = none) {H' : Hp} (x : But a H H') : But a H (L2.upd H' l o) := fun b u h e => by
  rw [upd_ne (ne_of_none e n)]
  exact x b u h e
theorem Same.seqT {K : PySem.W.Frag} {H H' : Hp} {a : Addr} {xs : List V} (e : Same H H') (h : SqT K H a xs) : SqT K H' a xs := by
  rcases h with (h | ⟨o, h⟩) | h
  · exact .inl (.inl (e _ _ h))
  · exact .inl (.inr ⟨o, e _ _ h⟩)
  · exact .inr h
theorem SqL_upd {K : PySem.W.Frag} {H : Hp} {a b : Addr} {xs : List V} {o : HO} (h : SqL K H b xs) (n : b ≠ a) : SqL K (L2.upd H a o) b xs := by
  rcases h with (h | ⟨u, h⟩) | h
  · exact .inl (.inl (by rw [upd_ne n]; exact h))
  · exact .inl (.inr ⟨u, by rw [upd_ne n]; exact h⟩)
  · exact .inr h
/-! ### the row of draws -/
def rowV (sc : Addr) (i z r : Int) : List V := [.ref sc, .int i, .int z, .int r]
/-- the script as it is to be read: locked, or written -/
def ScL (K : PySem.W.Frag) (H : Hp) (a : Addr) (xs : List V) : Prop := (∃ o, H a = some (.frz o (.lst xs))) ∨
  ∃ (o : Obj) (its : Array Value) (n : Nat), K.lookup a = some o ∧ o.cls = .type "list" ∧ o.dict = none ∧ o.data = .seq its n ∧ its.size ≤ sizeLine ∧ Vals xs its.toList
theorem ScL.sq {K : PySem.W.Frag} {H : Hp} {a : Addr} {xs : List V} (h : ScL K H a xs) : SqL K H a xs := h.elim (fun ⟨o, h⟩ => .inl (.inr ⟨o, h⟩)) fun h => .inr h
theorem ScL.of {K : PySem.W.Frag} {H : Hp} {a : Addr} {xs : List V} (O : L2.Only H) (h : SqL K H a xs) : ScL K H a xs := by
  rcases h with (h | h) | h
  · rcases O a with e | ⟨o, ys, e⟩
    · rw [h] at e
      cases e
    · rw [h] at e
      cases e
  · exact .inl h
  · exact .inr h
theorem ScL.same {K : PySem.W.Frag} {H H' : Hp} {a : Addr} {xs : List V} (h : ScL K H a xs) (s : Same H H') : ScL K H' a xs := h.elim (fun ⟨o, h⟩ => .inl ⟨o, s _ _ h⟩) fun h => .inr h
/-- what is no locked thing may be changed -/
def Loose (H : Hp) (l : Addr) : Prop := ∀ o u, H l ≠ some (.frz o u)
theorem Loose.lst {H : Hp} {l : Addr} {xs : List V} (h : H l = some (.lst xs)) : Loose H l := fun o u z => by
  rw [h] at z
  cases z
theorem ScL.upd {K : PySem.W.Frag} {H : Hp} {a l : Addr} {xs : List V} {o : HO} (h : ScL K H a xs) (n : Loose H l) : ScL K (L2.upd H l o) a xs := by
  rcases h with ⟨u, h⟩ | h
  · refine .inl ⟨u, ?_⟩
    rw [upd_ne fun z => n _ _ (by rw [← z]; exact h)]
    exact h
  · exact .inr h
structure RowAt (K : PySem.W.Frag) (H : Hp) (a sc : Addr) (ns : List Int) (i z r : Int) : Prop where
  row : H a = some (.lst (rowV sc i z r))
  scl : ScL K H sc (ns.map V.int)
  nn : 0 ≤ i
theorem RowAt.scr {K : PySem.W.Frag} {H : Hp} {a sc : Addr} {ns : List Int} {i z r : Int} (R : RowAt K H a sc ns i z r) : SqL K H sc (ns.map V.int) := R.scl.sq
def RowOk (K : PySem.W.Frag) (H : Hp) (a : Addr) : Prop := ∃ sc ns i z r, RowAt K H a sc ns i z r
theorem RowAt.upd {K : PySem.W.Frag} {H : Hp} {a sc : Addr} {ns : List Int} {i z r i' z' r' : Int} (R : RowAt K H a sc ns i z r) (h : 0 ≤ i') : RowAt K (L2.upd H a (.lst (rowV sc i' z' r'))) a sc ns i' z' r' :=
  ⟨upd_same, R.scl.upd (Loose.lst R.row), h⟩
theorem RowOk.some {K : PySem.W.Frag} {H : Hp} {a : Addr} (R : RowOk K H a) : ∃ xs, H a = Option.some (.lst xs) := by
  obtain ⟨sc, ns, i, z, r, R⟩ := R
  exact ⟨_, R.row⟩
theorem SqL_new {K : PySem.W.Frag} {H : Hp} {p b : Addr} {xs : List V} {o : HO} (h : SqL K H b xs) (n : H p = none) : SqL K (L2.upd H p o) b xs := (Same.new n).seq h
theorem RowOk.same {K : PySem.W.Frag} {H H' : Hp} {a : Addr} (R : RowOk K H a) (s : Same H H') : RowOk K H' a := by
  obtain ⟨sc, ns, i, z, r, R⟩ := R
  exact ⟨sc, ns, i, z, r, s a _ R.row, R.scl.same s, R.nn⟩
theorem RowOk.new {K : PySem.W.Frag} {H : Hp} {a p : Addr} {o : HO} (R : RowOk K H a) (n : H p = none) : RowOk K (L2.upd H p o) a := R.same (Same.new n)
/-- another thing is changed -/
theorem RowOk.beside {K : PySem.W.Frag} {H : Hp} {a l : Addr} {o : HO} (R : RowOk K H a) (n : Loose H l) (ne : l ≠ a) : RowOk K (L2.upd H l o) a := by
  obtain ⟨sc, ns, i, z, r, R⟩ := R
  exact ⟨sc, ns, i, z, r, by rw [upd_ne (Ne.symm ne)]; exact R.row, R.scl.upd n, R.nn⟩
theorem RowOk.free {K : PySem.W.Frag} {H H' : Hp} {a p : Addr} (R : RowOk K H' a) (b : But a H H') (n : H' p = none) : H p = none := by
  obtain ⟨xs, e⟩ := R.some
  have hp : p ≠ a := fun z => by rw [z, e] at n; cases n
  cases q : H p with
  | none => rfl
  | some o =>
    have := b p o hp q
    rw [n] at this
    cases this
theorem RowOk.ne {K : PySem.W.Frag} {H : Hp} {a p : Addr} (R : RowOk K H a) (n : H p = none) : p ≠ a := fun z => by
  obtain ⟨xs, e⟩ := R.some
  rw [z, e] at n
  cases n
theorem RowOk.tup {K : PySem.W.Frag} {H : Hp} {a p : Addr} {xs : List V} (R : RowOk K H a) (h : H p = Option.some (.tup xs)) : p ≠ a := fun z => by
  obtain ⟨ys, e⟩ := R.some
  rw [z, e] at h
  cases h
theorem RowOk.ins {K : PySem.W.Frag} {H : Hp} {a p C dx : Addr} {fs : List (Str × V)} (R : RowOk K H a) (h : H p = Option.some (.ins C dx fs)) : p ≠ a := fun z => by
  obtain ⟨ys, e⟩ := R.some
  rw [z, e] at h
  cases h
/-! ### picks -/
theorem pick {xs : List V} {v : Int} (h0 : 0 ≤ v) (h1 : v < xs.length) : ∃ x, atI xs v = some x ∧ x ∈ xs := by
  obtain ⟨j, rfl⟩ : ∃ j : Nat, v = (j : Int) := ⟨v.toNat, by omega⟩
  have hj : j < xs.length := by omega
  exact ⟨xs[j], atI_nat (List.getElem?_eq_getElem hj), List.getElem_mem hj⟩
theorem atI_in {xs : List V} {v : Int} (h0 : 0 ≤ v) (h1 : v < xs.length) : atI xs v = some (xs.getD v.toNat .non) := by
  obtain ⟨j, rfl⟩ : ∃ j : Nat, v = (j : Int) := ⟨v.toNat, by omega⟩
  have hj : j < xs.length := by omega
  have e : xs[j]? = some (xs.getD (j : Int).toNat .non) := by
    rw [List.getElem?_eq_getElem hj]
    simp [hj]
  exact atI_nat e
theorem ixN_at {n j : Nat} (hj : j < n) : ixN n (j : Int) = some j := by
  have h1 : (0 : Int) ≤ (j : Int) := Int.natCast_nonneg j
  have h2 : (j : Int) < (n : Int) := by omega
  simp [ixN, hj]
/-! ### small rules -/
section
variable {X : Cx}
theorem PGor {tg : Expr} {g1 g2 : TG} (h1 : PG X tg g1) (h2 : PG X tg g2) : PG X tg (fun v σ H Q => g1 v σ H Q ∨ g2 v σ H Q) :=
  ⟨fun pins s σ H v u Q I r h => h.elim (fun h => h1.run pins s σ H v u Q I r h) fun h => h2.run pins s σ H v u Q I r h⟩
end
/-! ### the parts of a reader -/
structure P8 where
  pt : Str
  cm : Str
  rs : Int
  mu : Bool
  sg : Str
  ze : Bool
  bl : Bool
  ex : Bool
  deriving DecidableEq
def P8.vs (p : P8) : List V := [.str p.pt, .str p.cm, .int p.rs, .bl p.mu, .str p.sg, .bl p.ze, .bl p.bl, .bl p.ex]
def ptL : List V := [.str ".", .str ",", .str ""]
def cmL : List V := [.str ".", .str ",", .str "'", .str " ", .str ""]
def rsL : List V := [.int 3, .int 2]
def sgL : List V := [.str "none", .str "ahead", .str "behind"]
def boL : List V := [.bl false, .bl true]
theorem str_of {xs : List V} (h : ∀ x ∈ xs, ∃ s, x = V.str s) {x : V} (m : x ∈ xs) : ∃ s, x = V.str s ∧ V.str s ∈ xs := by
  obtain ⟨s, e⟩ := h x m
  exact ⟨s, e, by rw [← e]; exact m⟩
theorem ptL_str {x : V} (m : x ∈ ptL) : ∃ s, x = V.str s ∧ V.str s ∈ ptL := str_of (by simp [ptL]) m
theorem cmL_str {x : V} (m : x ∈ cmL) : ∃ s, x = V.str s ∧ V.str s ∈ cmL := str_of (by simp [cmL]) m
theorem sgL_str {x : V} (m : x ∈ sgL) : ∃ s, x = V.str s ∧ V.str s ∈ sgL := str_of (by simp [sgL]) m
structure P8.Dom (p : P8) : Prop where
  pt : V.str p.pt ∈ ptL
  cm : V.str p.cm ∈ cmL
  rs : V.int p.rs ∈ rsL
  sg : V.str p.sg ∈ sgL
structure P8.Ok (p : P8) : Prop extends P8.Dom p where
  ne : p.cm = "" ∨ p.cm ≠ p.pt
  nb : ¬ (p.bl = true ∧ p.cm = " ")
/-! ### which part is wrong -/
def isB : V → Bool
  | .bl _ => true
  | _ => false
def among (v : V) (cs : List V) : Bool := cs.any fun c => (isB v == isB c) && decide (v = c)
def chL : List (Str × List V) := [("point", ptL), ("comma", cmL), ("rest", rsL), ("must", boL), ("sign", sgL), ("zeros", boL), ("blanks", boL), ("exponent", boL)]
def nameAt (i : Nat) : Str := (chL.getD i ("", [])).1
def chAt (i : Nat) : List V := (chL.getD i ("", [])).2
def at_ (ws : List V) (i : Nat) : V := ws.getD i .non
def clash (ws : List V) (nm : Str) : Bool := if nm = "comma" then !decide (at_ ws 1 = .str "") && decide (at_ ws 1 = at_ ws 0) else decide (nm = "blanks") && (decide (at_ ws 6 = .bl true) && decide (at_ ws 1 = .str " "))
def wrongAt (ws : List V) (i : Nat) : Bool := !among (at_ ws i) (chAt i) || clash ws (nameAt i)
def firstWrong (ws : List V) : Option Str := ((List.range 8).find? (wrongAt ws)).map nameAt
/-- the choices of a part are truth values -/
def boAt (i : Nat) : Bool := i == 3 || i == 5 || i == 6 || i == 7
/-- a value that may be asked; bo: beside truth values -/
inductive ValOk (H : Hp) (bo : Bool) : V → Prop where
  | non : ValOk H bo .non
  | bl (b : Bool) : ValOk H bo (.bl b)
  | int (i : Int) : ValOk H bo (.int i)
  | str (s : Str) : ValOk H bo (.str s)
  | tup {t : Addr} {xs : List Str} (h : H t = some (.tup (xs.map V.str))) (ok : ∀ x ∈ xs, PyData.strOk x = true) : ValOk H bo (.ref t)
  | dct {d : Addr} (h : H d = some (.dK [])) (hb : bo = true) : ValOk H bo (.ref d)
theorem ValOk.same {H H' : Hp} {bo : Bool} {v : V} (h : ValOk H bo v) (s : Same H H') : ValOk H' bo v := by
  cases h with
  | non => exact .non
  | bl b => exact .bl b
  | int i => exact .int i
  | str x => exact .str x
  | tup h ok => exact .tup (s _ _ h) ok
  | dct h hb => exact .dct (s _ _ h) hb
/-- the choices that go with bo -/
def Chs (bo : Bool) (cs : List V) : Prop := (bo = true ∧ ∀ c ∈ cs, ∃ b, c = .bl b) ∨ (bo = false ∧ ∀ c ∈ cs, (∃ s, c = .str s ∧ PyData.strOk s = true) ∨ ∃ i, c = .int i)
theorem chs_at (i : Nat) (h : i < 8) : Chs (boAt i) (chAt i) := by
  have : i = 0 ∨ i = 1 ∨ i = 2 ∨ i = 3 ∨ i = 4 ∨ i = 5 ∨ i = 6 ∨ i = 7 := by omega
  rcases this with rfl | rfl | rfl | rfl | rfl | rfl | rfl | rfl
  · exact .inr ⟨rfl, by simp [chAt, chL, ptL] <;> decide +kernel⟩
  · exact .inr ⟨rfl, by simp [chAt, chL, cmL] <;> decide +kernel⟩
  · exact .inr ⟨rfl, by simp [chAt, chL, rsL] <;> decide +kernel⟩
  · exact .inl ⟨rfl, by simp [chAt, chL, boL]⟩
  · exact .inr ⟨rfl, by simp [chAt, chL, sgL] <;> decide +kernel⟩
  · exact .inl ⟨rfl, by simp [chAt, chL, boL]⟩
  · exact .inl ⟨rfl, by simp [chAt, chL, boL]⟩
  · exact .inl ⟨rfl, by simp [chAt, chL, boL]⟩
/-- isinstance(v, bool) -/
theorem isi_bool {K : PySem.W.Frag} {H : Hp} {bo : Bool} {v : V} (h : ValOk H bo v) : ∃ t, TyX K H v t ∧ PySem.W.kitOne K t (.type "bool") = some (isB v) := by
  cases h with
  | non => exact ⟨_, .base .non, kit_ty (r := false) (by decide +kernel)⟩
  | bl b => exact ⟨_, .base (.bl b), kit_ty (r := true) (by decide +kernel)⟩
  | int i => exact ⟨_, .base (.int i), kit_ty (r := false) (by decide +kernel)⟩
  | str x => exact ⟨_, .base (.str x), kit_ty (r := false) (by decide +kernel)⟩
  | tup h _ => exact ⟨_, .base (.tup h), kit_ty (r := false) (by decide +kernel)⟩
  | dct h _ => exact ⟨_, .base (.dK h), kit_ty (r := false) (by decide +kernel)⟩
theorem dpAll_str {K : PySem.W.Frag} {H : Hp} : ∀ xs : List Str, DpAll K H (xs.map V.str) (xs.map PyData.str)
  | [] => .nil
  | x :: xs => .cons (.str x) (dpAll_str xs)
theorem lay_strs : ∀ xs : List Str, (∀ x ∈ xs, PyData.strOk x = true) → PyData.canLayAll0 (xs.map PyData.str) = true
  | [], _ => by simp [PyData.canLayAll0]
  | x :: xs, h => by
    show PyData.canLayAll0 (PyData.str x :: xs.map PyData.str) = true
    simp only [PyData.canLayAll0, PyData.canLay0]
    rw [h x List.mem_cons_self, lay_strs xs fun y hy => h y (List.mem_cons_of_mem _ hy)]
    rfl
theorem dep_strs : ∀ xs : List Str, PyData.depthAll (xs.map PyData.str) = 0
  | [] => by simp [PyData.depthAll]
  | x :: xs => by
    show PyData.depthAll (PyData.str x :: xs.map PyData.str) = 0
    simp only [PyData.depthAll, PyData.depth]
    rw [dep_strs xs]
    rfl
theorem shaped_strs (xs : List Str) (h : ∀ x ∈ xs, PyData.strOk x = true) : SeqAt.shaped (.tuple (xs.map PyData.str)) = true := by
  refine Bool.and_eq_true_iff.mpr ⟨?_, decide_eq_true ?_⟩
  · simp only [PyData.canLay0]
    exact lay_strs xs h
  · simp only [PyData.depth]
    rw [dep_strs xs]
    omega
theorem shaped_str {x : Str} (h : PyData.strOk x = true) : SeqAt.shaped (.str x) = true := by
  refine Bool.and_eq_true_iff.mpr ⟨?_, decide_eq_true ?_⟩
  · simp only [PyData.canLay0]
    exact h
  · simp only [PyData.depth]
    omega
theorem shaped_int (i : Int) : SeqAt.shaped (.int i) = true := by
  refine Bool.and_eq_true_iff.mpr ⟨?_, decide_eq_true ?_⟩
  · simp only [PyData.canLay0]
  · simp only [PyData.depth]
    omega
/-- v == c, c one of the choices, where both or none are truth values -/
theorem eq_one {K : PySem.W.Frag} {H : Hp} {bo : Bool} {v c : V} {cs : List V} {Q : VK} (h : ValOk H bo v) (hc : Chs bo cs) (m : c ∈ cs) (e : isB v = isB c) (q : Q (.bl (decide (v = c))) H) : rEq v c H Q ∨ rEqD K v c H Q := by
  rcases hc with ⟨hb, hc⟩ | ⟨hb, hc⟩
  · obtain ⟨b, rfl⟩ := hc c m
    cases h with
    | bl b' => exact .inl ⟨rfl, q⟩
    | _ => exact Bool.noConfusion e
  · have nb : isB c = false := by
      rcases hc c m with ⟨x, rfl, _⟩ | ⟨i, rfl⟩ <;> rfl
    rw [nb] at e
    cases h with
    | bl b' => exact Bool.noConfusion e
    | non => exact .inl ⟨by rcases hc c m with ⟨x, rfl, _⟩ | ⟨i, rfl⟩ <;> rfl, q⟩
    | int i => exact .inl ⟨by rcases hc c m with ⟨x, rfl, _⟩ | ⟨i, rfl⟩ <;> rfl, q⟩
    | str x => exact .inl ⟨by rcases hc c m with ⟨x, rfl, _⟩ | ⟨i, rfl⟩ <;> rfl, q⟩
    | dct _ hb' => exact absurd (hb.symm.trans hb') (by decide)
    | @tup t xs h ok =>
      refine .inr ?_
      rcases hc c m with ⟨x, rfl, hx⟩ | ⟨i, rfl⟩
      · refine ⟨_, _, .tup (SqT.of h) (dpAll_str xs), .str x, shaped_strs xs ok, shaped_str hx, ?_⟩
        have z : decide (V.ref t = V.str x) = false := decide_eq_false fun z => nomatch z
        rw [z] at q
        exact q
      · refine ⟨_, _, .tup (SqT.of h) (dpAll_str xs), .int i, shaped_strs xs ok, shaped_int i, ?_⟩
        have z : decide (V.ref t = V.int i) = false := decide_eq_false fun z => nomatch z
        rw [z] at q
        exact q
/-! ### the built-in names -/
theorem bt_isinstance : bootBuiltins "isinstance" = some (.builtin "isinstance") := by decide +kernel
theorem bt_any : bootBuiltins "any" = some (.builtin "any") := by decide +kernel
theorem bt_all : bootBuiltins "all" = some (.builtin "all") := by decide +kernel
theorem bt_len : bootBuiltins "len" = some (.builtin "len") := by decide +kernel
theorem bt_int : bootBuiltins "int" = some (.type "int") := by decide +kernel
theorem bt_bool : bootBuiltins "bool" = some (.type "bool") := by decide +kernel
theorem bt_str : bootBuiltins "str" = some (.type "str") := by decide +kernel
theorem bt_list : bootBuiltins "list" = some (.type "list") := by decide +kernel
theorem bt_tuple : bootBuiltins "tuple" = some (.type "tuple") := by decide +kernel
theorem bt_sum : bootBuiltins "sum" = some (.builtin "sum") := by decide +kernel
theorem bt_min : bootBuiltins "min" = some (.builtin "min") := by decide +kernel
theorem bt_max : bootBuiltins "max" = some (.builtin "max") := by decide +kernel
theorem bt_abs : bootBuiltins "abs" = some (.builtin "abs") := by decide +kernel
theorem bt_range : bootBuiltins "range" = some (.type "range") := by decide +kernel
theorem bt_zip : bootBuiltins "zip" = some (.type "zip") := by decide +kernel
theorem bt_enumerate : bootBuiltins "enumerate" = some (.type "enumerate") := by decide +kernel
theorem bt_sorted : bootBuiltins "sorted" = some (.builtin "sorted") := by decide +kernel
theorem bt_set : bootBuiltins "set" = some (.type "set") := by decide +kernel
theorem bt_dict : bootBuiltins "dict" = some (.type "dict") := by decide +kernel
theorem bt_reversed : bootBuiltins "reversed" = some (.type "reversed") := by decide +kernel
theorem isi_flat {K : PySem.W.Frag} {H : Hp} {bo : Bool} {c : V} {cs : List V} (hc : Chs bo cs) (m : c ∈ cs) : ∃ t, TyX K H c t ∧ PySem.W.kitOne K t (.type "bool") = some (isB c) := by
  have h : ValOk H bo c := by
    rcases hc with ⟨_, hc⟩ | ⟨_, hc⟩
    · obtain ⟨b, rfl⟩ := hc c m
      exact .bl b
    · rcases hc c m with ⟨x, rfl, _⟩ | ⟨i, rfl⟩
      · exact .str x
      · exact .int i
  exact isi_bool h
theorem take_more {α : Type} : ∀ {l : List α} {i : Nat} {x : α}, l[i]? = some x → l.take (i + 1) = l.take i ++ [x]
  | [], i, x, h => by simp at h
  | a :: l, 0, x, h => by
    have e : a = x := Option.some.inj h
    subst e
    rfl
  | a :: l, i + 1, x, h => by
    show a :: l.take (i + 1) = a :: l.take i ++ [x]
    rw [take_more (l := l) (i := i) (x := x) h]
    rfl
/-! ### rules that name the written part, for a comprehension's block -/
section
variable {X : Cx} {K : PySem.W.Frag}
theorem isiK (h : X.K = K := by rfl) : CallR X (.builtin "isinstance") (rIsi K) := by
  rw [← h]
  exact call_isi
theorem eqDK (hu : X.A.units + 64 < cLine) (h : X.K = K := by rfl) : OpR X (compareOp .Eq) (rEqD K) := by
  rw [← h]
  exact op_eqD hu
theorem neDK (hu : X.A.units + 64 < cLine) (h : X.K = K := by rfl) : OpR X (compareOp .NotEq) (rNeD K) := by
  rw [← h]
  exact op_neD hu
theorem ixLK (h : X.K = K := by rfl) : IxR X (rIxL K) := by
  rw [← h]
  exact ix_list
theorem ixTK (h : X.K = K := by rfl) : IxR X (rIxT K) := by
  rw [← h]
  exact ix_tup
end
/-! ### written tuples; a loop over zip of two tuples -/
def WT (K : PySem.W.Frag) (a : Addr) (xs : List V) : Prop := ∃ (o : Obj) (its : Array Value) (n : Nat), K.lookup a = some o ∧ o.cls = .type "tuple" ∧ o.data = .seq its n ∧ its.size ≤ sizeLine ∧ Vals xs its.toList
theorem WT.sq {K : PySem.W.Frag} {H : Hp} {a : Addr} {xs : List V} (h : WT K a xs) : SqT K H a xs := .inr h
theorem wt_mk {K : PySem.W.Frag} {a : Addr} {xs : List V} {its : List Value} {n : Nat} {d : Option Addr} {sl : Array (Option Value)} (h : K.lookup a = some ⟨.type "tuple", d, .seq its.toArray n, sl⟩) (hl : its.length ≤ 1000) (r : Vals xs its) : WT K a xs :=
  ⟨_, _, n, h, rfl, rfl, by rw [List.size_toArray, sizeLine_eq]; omega, by simpa using r⟩
theorem for_zipT {K : PySem.W.Frag} {a b : Addr} {xs ys : List V} {g : TG} {tb : TS} {D : Ends} {σ : L2.St} {H : Hp} (hl : xs.length = ys.length) (Pv : Nat → L2.St → Hp → Prop) (h0 : Pv 0 σ H) (hq : ∀ i σ H, Pv i σ H → SqT K H a xs ∧ SqT K H b ys)
    (hs : ∀ (i : Nat) (x y : V) (T : Addr) (σ : L2.St) (H : Hp), xs[i]? = some x → ys[i]? = some y → Pv i σ H → H T = none → g (.ref T) σ (upd H T (.tup [x, y])) fun σ2 H2 => tb { D with nx := Pv (i + 1), ct := Pv (i + 1), bk := D.nx } σ2 H2)
    (hd : ∀ σ H, Pv xs.length σ H → D.nx σ H) :
    ∃ W : Nat → Nat → L2.St → Hp → Prop, (∃ m, W 0 m σ H) ∧ ∀ i m σ H, W i m σ H →
      ((RZ.ItzT K a b).stop i H ∧ D.nx σ H) ∨ ((RZ.ItzT K a b).go i H ∧ ∃ N : L2.St → Hp → Prop, (∀ σ' H', N σ' H' → ∃ m', m' < m ∧ W (i + 1) m' σ' H') ∧
        ∀ v H', (RZ.ItzT K a b).yld i H v H' → g v σ H' fun σ2 H2 => tb { D with nx := N, ct := N, bk := D.nx } σ2 H2) := by
  refine ⟨fun i m σ H => m = xs.length - i ∧ i ≤ xs.length ∧ Pv i σ H, ⟨_, rfl, Nat.zero_le _, h0⟩, fun i m σ H w => ?_⟩
  obtain ⟨em, hi, p⟩ := w
  obtain ⟨qx, qy⟩ := hq i σ H p
  rcases Nat.lt_or_ge i xs.length with hlt | hge
  · have hlt2 : i < ys.length := by omega
    have hx : xs[i]? = some xs[i] := List.getElem?_eq_getElem hlt
    have hy : ys[i]? = some ys[i] := List.getElem?_eq_getElem hlt2
    refine .inr ⟨⟨xs, ys, _, _, qx, qy, hx, hy⟩, fun σ' H' => Pv (i + 1) σ' H', fun σ' H' z => ⟨xs.length - (i + 1), by omega, rfl, hlt, z⟩, fun v H' z => ?_⟩
    obtain ⟨T, x, y, rfl, hT, rfl, zx, zy⟩ := z
    exact hs i x y T σ H (zx _ qx) (zy _ qy) p hT
  · have e : i = xs.length := by omega
    subst e
    exact .inl ⟨⟨xs, ys, qx, qy, .inl (Nat.le_refl _)⟩, hd σ H p⟩
/-- the written choices -/
def ChK (K : PySem.W.Frag) (c0 : Addr) : Prop := ∃ q r : Nat → Addr, WT K c0 ((List.range 8).map fun i => V.ref (q i)) ∧ ∀ i, i < 8 → WT K (q i) [.str (nameAt i), .ref (r i)] ∧ WT K (r i) (chAt i)
theorem at_get {ws : List V} {i : Nat} (h : i < ws.length) : ws[i]? = some (at_ ws i) := by
  unfold at_
  rw [List.getElem?_eq_getElem h]
  simp [h]
theorem at_of {ws : List V} {i : Nat} {x : V} (h : ws[i]? = some x) : x = at_ ws i := by
  obtain ⟨hl, _⟩ := List.getElem?_eq_some_iff.mp h
  rw [at_get hl] at h
  exact (Option.some.inj h).symm
theorem atI_at {ws : List V} {i : Nat} (h : i < ws.length) : atI ws (i : Int) = some (at_ ws i) := atI_nat (at_get h)
/-- the first of the places that are wrong -/
theorem first_none {ws : List V} (h : ∀ j, j < 8 → wrongAt ws j = false) : firstWrong ws = none := by
  unfold firstWrong
  have e : (List.range 8).find? (wrongAt ws) = none := List.find?_eq_none.mpr fun j hj => by
    rw [h j (List.mem_range.mp hj)]
    decide
  rw [e]
  rfl
theorem find_range {p : Nat → Bool} {n i : Nat} (h : ∀ j, j < i → p j = false) (hi : p i = true) (hn : i < n) : (List.range n).find? p = some i := by
  rw [List.find?_range_eq_some]
  exact ⟨hi, List.mem_range.mpr hn, fun j hj => by rw [h j hj]; rfl⟩
theorem first_some {ws : List V} {i : Nat} (h : ∀ j, j < i → wrongAt ws j = false) (hi : wrongAt ws i = true) (hn : i < 8) : firstWrong ws = some (nameAt i) := by
  unfold firstWrong
  rw [find_range h hi hn]
  rfl
theorem eight {ws : List V} (h : ws.length = 8) : ∃ a b c d e f g i, ws = [a, b, c, d, e, f, g, i] := by
  match ws, h with
  | [a, b, c, d, e, f, g, i], _ => exact ⟨a, b, c, d, e, f, g, i, rfl⟩
theorem first_name {ws : List V} {nm : Str} (h : firstWrong ws = some nm) : ∃ i, i < 8 ∧ nm = nameAt i ∧ wrongAt ws i = true := by
  unfold firstWrong at h
  cases e : (List.range 8).find? (wrongAt ws) with
  | none => rw [e] at h; cases h
  | some i =>
    rw [e] at h
    exact ⟨i, List.mem_range.mp (List.mem_of_find?_eq_some e), (Option.some.inj h).symm, List.find?_some e⟩
theorem first_vok {ws : List V} {nm : Str} (h : firstWrong ws = some nm) : VOk (.str nm) := by
  obtain ⟨i, hi, rfl, _⟩ := first_name h
  refine vok_str ?_
  have : i = 0 ∨ i = 1 ∨ i = 2 ∨ i = 3 ∨ i = 4 ∨ i = 5 ∨ i = 6 ∨ i = 7 := by omega
  rcases this with rfl | rfl | rfl | rfl | rfl | rfl | rfl | rfl <;> exact (by decide +kernel)
/-- a Reader stands at x, its parts are ws -/
def RdAt (C : Addr) (H : Hp) (x : Addr) (ws : List V) : Prop := ∃ dx t, H x = some (.ins C dx [(("_parts" : Str), .ref t)]) ∧ H t = some (.tup ws)
theorem RdAt.same {C : Addr} {H H' : Hp} {x : Addr} {ws : List V} (h : RdAt C H x ws) (s : Same H H') : RdAt C H' x ws := by
  obtain ⟨dx, t, h1, h2⟩ := h
  exact ⟨dx, t, s _ _ h1, s _ _ h2⟩
theorem RdAt.but {K : PySem.W.Frag} {C a : Addr} {H H' : Hp} {x : Addr} {ws : List V} (h : RdAt C H x ws) (R : RowOk K H a) (s : But a H H') : RdAt C H' x ws := by
  obtain ⟨dx, t, h1, h2⟩ := h
  exact ⟨dx, t, s _ _ (R.ins h1) h1, s _ _ (R.tup h2) h2⟩
/-! ### == by an own __eq__, whatever it says -/
section
variable {X : Cx} {CX : CXT} {C f : Addr} {fd : FuncData} {sp : Sp} {n : Nat} {E : XK}
def rEqO (K : PySem.W.Frag) (C : Addr) (sp : Sp) (E : XK) : R2 := fun x y H Q => ∃ a dx fs t, x = .ref a ∧ H a = some (.ins C dx fs) ∧ TyX K H y t ∧ PySem.W.notFirst K C t = true ∧ sp [.ref a, y] H (fun v H' => ∃ b, v = .bl b ∧ Q (.bl b) H') E
theorem op_eqO (F : FnOk X.prog X.w X.K X.mg X.base CX n f fd ["self", "other"] sp) (hs : PySem.W.findIn X.K (.ref C) "__eq__" = some (some (.ref f))) (hf : PySem.W.isFn X.K (.ref f) = true) (hb : Binds X.K fd ["self", "other"] []) (hx : Passes CX X E) (hr : Room n X.A) :
    OpR X (compareOp .Eq) (rEqO X.K C sp E) := by
  intro pins s σ H x y v u Q I rx ry hq
  obtain ⟨a, dx, fs, t, rfl, ha, hty, hnf, hsp⟩ := hq
  obtain rfl : v = Value.ref a := rx
  obtain ⟨mA, J, _⟩ := ins_get I.hok ha
  obtain ⟨od, J, _⟩ := J.look
  obtain ⟨P, Z, hP, _⟩ := kit_of I ry hty
  obtain ⟨m, hF⟩ := I.fr
  show wpAny (model X.prog X.w) X.A (richCompare .Eq (.ref a) u) (EP X pins σ Q) X.xe s
  refine PySem.W.cmp_K (op := .Eq) (tb := t) hr.units0 hF I.ok.mod.kin J (Z.ty _ _ I.kIn hP) hnf hs hf ?_
  refine wpAny_call (codeAny_mono (F.run X.A X.stack s H ⟨[.ref a, u], []⟩ [.ref a, u] [.ref a, y] _ E hr I.env0 (by
    have z := hb s [.ref a, u] I.kIn rfl
    simpa using z) (.cons rfl (.cons ry .nil)) hsp) fun r s' hq => ?_)
  cases r with
  | error e => exact hx pins σ H s e s' I hq
  | ok fl =>
    cases fl with
    | ret w' =>
      obtain ⟨z, H', I', rz, b, ez, q⟩ := I.after hq
      subst ez
      obtain rfl : w' = Value.bool b := rz
      exact ⟨.bl b, H', I', rfl, q⟩
    | next => exact False.elim hq
    | brk => exact False.elim hq
    | cont => exact False.elim hq
end
/-! ### the parts as data -/
def P8.dat (p : P8) : List PyData := [.str p.pt, .str p.cm, .int p.rs, .bool p.mu, .str p.sg, .bool p.ze, .bool p.bl, .bool p.ex]
theorem P8.dp {K : PySem.W.Frag} {H : Hp} (p : P8) : DpAll K H p.vs p.dat :=
  .cons (.str _) (.cons (.str _) (.cons (.int _) (.cons (.bl _) (.cons (.str _) (.cons (.bl _) (.cons (.bl _) (.cons (.bl _) .nil)))))))
theorem P8.eqv (p q : P8) : PyData.eqv (.tuple p.dat) (.tuple q.dat) = decide (p = q) := by
  obtain ⟨a, b, c, d, e, f, g, i⟩ := p
  obtain ⟨a', b', c', d', e', f', g', i'⟩ := q
  show PyData.eqv (.tuple [.str a, .str b, .int c, .bool d, .str e, .bool f, .bool g, .bool i]) (.tuple [.str a', .str b', .int c', .bool d', .str e', .bool f', .bool g', .bool i']) = _
  simp only [PyData.eqv, PyData.eqvAll, Bool.and_true]
  rw [Bool.eq_iff_iff]
  simp [P8.mk.injEq]
theorem mem_strOk {x : Str} {xs : List V} (h : ∀ s, V.str s ∈ xs → PyData.strOk s = true) (m : V.str x ∈ xs) : PyData.strOk x = true := h x m
theorem ok_pt {x : Str} (m : V.str x ∈ ptL) : PyData.strOk x = true := by
  have h : x = "." ∨ x = "," ∨ x = "" := by simpa [ptL] using m
  rcases h with rfl | rfl | rfl <;> decide +kernel
theorem ok_cm {x : Str} (m : V.str x ∈ cmL) : PyData.strOk x = true := by
  have h : x = "." ∨ x = "," ∨ x = "'" ∨ x = " " ∨ x = "" := by simpa [cmL] using m
  rcases h with rfl | rfl | rfl | rfl | rfl <;> decide +kernel
theorem ok_sg {x : Str} (m : V.str x ∈ sgL) : PyData.strOk x = true := by
  have h : x = "none" ∨ x = "ahead" ∨ x = "behind" := by simpa [sgL] using m
  rcases h with rfl | rfl | rfl <;> decide +kernel
theorem P8.shaped (p : P8) (h : p.Dom) : SeqAt.shaped (.tuple p.dat) = true := by
  refine Bool.and_eq_true_iff.mpr ⟨?_, decide_eq_true ?_⟩
  · simp only [PyData.canLay0, P8.dat, PyData.canLayAll0]
    rw [ok_pt h.pt, ok_cm h.cm, ok_sg h.sg]
    rfl
  · simp only [PyData.depth, P8.dat, PyData.depthAll]
    omega
/-! ### parts of two readers, mixed -/
def P8.mix (q p : P8) (i : Nat) : P8 := match i with
  | 0 => { q with pt := p.pt }
  | 1 => { q with cm := p.cm }
  | 2 => { q with rs := p.rs }
  | 3 => { q with mu := p.mu }
  | 4 => { q with sg := p.sg }
  | 5 => { q with ze := p.ze }
  | 6 => { q with bl := p.bl }
  | _ => { q with ex := p.ex }
theorem lt8 {i : Nat} (h : i < 8) : i = 0 ∨ i = 1 ∨ i = 2 ∨ i = 3 ∨ i = 4 ∨ i = 5 ∨ i = 6 ∨ i = 7 := by omega
theorem P8.mix_vs (q p : P8) {i : Nat} (h : i < 8) : q.vs.set i (at_ p.vs i) = (q.mix p i).vs := by
  rcases lt8 h with rfl | rfl | rfl | rfl | rfl | rfl | rfl | rfl <;> rfl
theorem P8.Dom.mix {q p : P8} (hq : q.Dom) (hp : p.Dom) {i : Nat} (h : i < 8) : (q.mix p i).Dom := by
  rcases lt8 h with rfl | rfl | rfl | rfl | rfl | rfl | rfl | rfl
  · exact ⟨hp.pt, hq.cm, hq.rs, hq.sg⟩
  · exact ⟨hq.pt, hp.cm, hq.rs, hq.sg⟩
  · exact ⟨hq.pt, hq.cm, hp.rs, hq.sg⟩
  · exact ⟨hq.pt, hq.cm, hq.rs, hq.sg⟩
  · exact ⟨hq.pt, hq.cm, hq.rs, hp.sg⟩
  · exact ⟨hq.pt, hq.cm, hq.rs, hq.sg⟩
  · exact ⟨hq.pt, hq.cm, hq.rs, hq.sg⟩
  · exact ⟨hq.pt, hq.cm, hq.rs, hq.sg⟩
theorem P8.len (p : P8) : p.vs.length = 8 := rfl
theorem P8.valOk {H : Hp} (p : P8) {i : Nat} (h : i < 8) : ValOk H (boAt i) (at_ p.vs i) := by
  rcases lt8 h with rfl | rfl | rfl | rfl | rfl | rfl | rfl | rfl
  · exact .str _
  · exact .str _
  · exact .int _
  · exact .bl _
  · exact .str _
  · exact .bl _
  · exact .bl _
  · exact .bl _
theorem among_mem {v : V} {cs : List V} (m : v ∈ cs) : among v cs = true := List.any_eq_true.mpr ⟨v, m, by simp⟩
theorem among_not {v : V} {cs : List V} (m : ¬ v ∈ cs) : among v cs = false := by
  cases e : among v cs with
  | false => rfl
  | true =>
    obtain ⟨c, hc, z⟩ := List.any_eq_true.mp e
    rw [Bool.and_eq_true] at z
    exact absurd (by rw [of_decide_eq_true z.2]; exact hc) m
theorem bo_mem (b : Bool) : V.bl b ∈ boL := by cases b <;> simp [boL]
theorem P8.Dom.among {p : P8} (h : p.Dom) {i : Nat} (hi : i < 8) : Ra.among (at_ p.vs i) (chAt i) = true := by
  rcases lt8 hi with rfl | rfl | rfl | rfl | rfl | rfl | rfl | rfl
  · exact among_mem h.pt
  · exact among_mem h.cm
  · exact among_mem h.rs
  · exact among_mem (bo_mem _)
  · exact among_mem h.sg
  · exact among_mem (bo_mem _)
  · exact among_mem (bo_mem _)
  · exact among_mem (bo_mem _)
/-- clashes at a place, read off the first, the second and the seventh part -/
theorem clash_other {ws : List V} {i : Nat} (h : i < 8) (h1 : i ≠ 1) (h6 : i ≠ 6) : clash ws (nameAt i) = false := by
  have e1 : ¬ nameAt i = "comma" := by
    rcases lt8 h with rfl | rfl | rfl | rfl | rfl | rfl | rfl | rfl <;> first | exact absurd rfl h1 | decide +kernel
  have e6 : ¬ nameAt i = "blanks" := by
    rcases lt8 h with rfl | rfl | rfl | rfl | rfl | rfl | rfl | rfl <;> first | exact absurd rfl h6 | decide +kernel
  unfold clash
  rw [if_neg e1, decide_eq_false e6, Bool.false_and]
theorem clash_1 (ws : List V) : clash ws (nameAt 1) = (!decide (at_ ws 1 = .str "") && decide (at_ ws 1 = at_ ws 0)) := by
  unfold clash
  rw [if_pos (by decide +kernel)]
theorem clash_6 (ws : List V) : clash ws (nameAt 6) = (decide (at_ ws 6 = .bl true) && decide (at_ ws 1 = .str " ")) := by
  unfold clash
  rw [if_neg (by decide +kernel), decide_eq_true (by decide +kernel), Bool.true_and]
theorem P8.Ok.clash {p : P8} (h : p.Ok) {i : Nat} (hi : i < 8) : Ra.clash p.vs (nameAt i) = false := by
  by_cases h1 : i = 1
  · subst h1
    rw [clash_1]
    show (!decide (V.str p.cm = V.str "") && decide (V.str p.cm = V.str p.pt)) = false
    rcases h.ne with e | e
    · rw [e]
      rfl
    · rw [decide_eq_false (p := V.str p.cm = V.str p.pt) (fun z => e (V.str.inj z)), Bool.and_false]
  · by_cases h6 : i = 6
    · subst h6
      rw [clash_6]
      show (decide (V.bl p.bl = V.bl true) && decide (V.str p.cm = V.str " ")) = false
      by_cases e : p.bl = true
      · have e2 : ¬ p.cm = " " := fun z => h.nb ⟨e, z⟩
        rw [decide_eq_false (p := V.str p.cm = V.str " ") (fun z => e2 (V.str.inj z)), Bool.and_false]
      · rw [decide_eq_false (p := V.bl p.bl = V.bl true) (fun z => e (V.bl.inj z)), Bool.false_and]
    · exact clash_other hi h1 h6
theorem P8.Ok.right {p : P8} (h : p.Ok) {i : Nat} (hi : i < 8) : wrongAt p.vs i = false := by
  unfold wrongAt
  rw [h.toDom.among hi, h.clash hi]
  rfl
theorem P8.Ok.first {p : P8} (h : p.Ok) : firstWrong p.vs = none := first_none fun j hj => h.right hj
/-! ### spoilt parts -/
theorem ValOk.but {K : PySem.W.Frag} {H H' : Hp} {a : Addr} {bo : Bool} {v : V} (h : ValOk H bo v) (R : RowOk K H a) (s : But a H H') : ValOk H' bo v := by
  cases h with
  | non => exact .non
  | bl b => exact .bl b
  | int i => exact .int i
  | str x => exact .str x
  | tup h ok => exact .tup (s _ _ (R.tup h) h) ok
  | @dct d h hb =>
    refine .dct (s _ _ (fun z => ?_) h) hb
    obtain ⟨xs, e⟩ := R.some
    rw [z, e] at h
    cases h
theorem ValOk.list {H : Hp} {l : Addr} {xs : List V} {bo : Bool} {v : V} {o : HO} (h : ValOk H bo v) (hl : H l = some (.lst xs)) : ValOk (L2.upd H l o) bo v := by
  cases h with
  | non => exact .non
  | bl b => exact .bl b
  | int i => exact .int i
  | str x => exact .str x
  | tup h ok => exact .tup (by rw [upd_ne (ne_of h hl (by intro z; cases z))]; exact h) ok
  | dct h hb => exact .dct (by rw [upd_ne (ne_of h hl (by intro z; cases z))]; exact h) hb
/-- what spoils a part -/
def OddOk (H : Hp) (i : Nat) (v : V) : Prop := ValOk H (boAt i) v ∧ ¬ v ∈ chAt i
def OddL (H : Hp) (i : Nat) (l : Addr) : Prop := ∃ vs, H l = some (.lst vs) ∧ vs ≠ [] ∧ vs.length ≤ 6 ∧ ∀ v ∈ vs, OddOk H i v
theorem OddL.same {H H' : Hp} {i : Nat} {l : Addr} (h : OddL H i l) (s : Same H H') : OddL H' i l := by
  obtain ⟨vs, e, n, z, k⟩ := h
  exact ⟨vs, s _ _ e, n, z, fun v m => ⟨(k v m).1.same s, (k v m).2⟩⟩
theorem OddL.but {K : PySem.W.Frag} {H H' : Hp} {a : Addr} {i : Nat} {l : Addr} (h : OddL H i l) (R : RowOk K H a) (n : l ≠ a) (s : But a H H') : OddL H' i l := by
  obtain ⟨vs, e, n1, z, k⟩ := h
  exact ⟨vs, s _ _ n e, n1, z, fun v m => ⟨(k v m).1.but R s, (k v m).2⟩⟩
theorem OddL.list {H : Hp} {i : Nat} {l p : Addr} {xs : List V} {o : HO} (h : OddL H i l) (hp : H p = some (.lst xs)) (n : l ≠ p) : OddL (L2.upd H p o) i l := by
  obtain ⟨vs, e, n1, z, k⟩ := h
  exact ⟨vs, by rw [upd_ne n]; exact e, n1, z, fun v m => ⟨(k v m).1.list hp, (k v m).2⟩⟩
/-- what is wrong at a place hangs on the parts up to it -/
theorem wrong_ext {ws vs : List V} {j : Nat} (hj : j < 8) (h : ∀ k, k ≤ j → at_ ws k = at_ vs k) : wrongAt ws j = wrongAt vs j := by
  unfold wrongAt
  rw [h j (Nat.le_refl _)]
  congr 1
  by_cases h1 : j = 1
  · subst h1
    rw [clash_1, clash_1, h 1 (by omega), h 0 (by omega)]
  · by_cases h6 : j = 6
    · subst h6
      rw [clash_6, clash_6, h 6 (by omega), h 1 (by omega)]
    · rw [clash_other hj h1 h6, clash_other hj h1 h6]
theorem at_set_eq {ws : List V} {i : Nat} {v : V} (h : i < ws.length) : at_ (ws.set i v) i = v := by
  have e := at_get (ws := ws.set i v) (i := i) (by rw [List.length_set]; exact h)
  rw [List.getElem?_set_self h] at e
  exact (Option.some.inj e).symm
theorem at_set_ne {ws : List V} {i j : Nat} {v : V} (h : j ≠ i) : at_ (ws.set i v) j = at_ ws j := by
  unfold at_
  rw [List.getD_eq_getElem?_getD, List.getD_eq_getElem?_getD, List.getElem?_set_ne (Ne.symm h)]
/-- the point twice -/
theorem P8.Ok.twice {p : P8} (h : p.Ok) (n : p.pt ≠ "") : firstWrong [.str p.pt, .str p.pt, .int p.rs, .bl p.mu, .str p.sg, .bl p.ze, .bl p.bl, .bl p.ex] = some "comma" := by
  refine first_some (i := 1) (fun j hj => ?_) ?_ (by decide)
  · have : j = 0 := by omega
    subst this
    have e := h.right (i := 0) (by decide)
    rw [← e]
    exact wrong_ext (by decide) fun k hk => by
      have : k = 0 := by omega
      subst this
      rfl
  · unfold wrongAt
    rw [clash_1]
    show (!Ra.among (.str p.pt) (chAt 1) || (!decide (V.str p.pt = V.str "") && decide (V.str p.pt = V.str p.pt))) = true
    rw [decide_eq_false (p := V.str p.pt = V.str "") (fun z => n (V.str.inj z)), decide_eq_true (p := V.str p.pt = V.str p.pt) rfl]
    simp
/-- a blank between the groups, and blanks -/
theorem P8.Ok.blank {p : P8} (h : p.Ok) : firstWrong [.str p.pt, .str " ", .int p.rs, .bl p.mu, .str p.sg, .bl p.ze, .bl true, .non] = some "blanks" := by
  refine first_some (i := 6) (fun j hj => ?_) ?_ (by decide)
  · have np : ¬ (" " : Str) = p.pt := fun z => by
      have m := h.pt
      rw [← z] at m
      revert m
      decide +kernel
    have : j = 0 ∨ j = 1 ∨ j = 2 ∨ j = 3 ∨ j = 4 ∨ j = 5 := by omega
    by_cases h1 : j = 1
    · subst h1
      unfold wrongAt
      rw [clash_1]
      show (!Ra.among (.str " ") (chAt 1) || (!decide (V.str " " = V.str "") && decide (V.str " " = V.str p.pt))) = false
      rw [decide_eq_false (p := V.str " " = V.str p.pt) (fun z => np (V.str.inj z)), Bool.and_false, Bool.or_false, among_mem (by simp [chAt, chL, cmL])]
      rfl
    · have e := h.toDom.among (i := j) (by omega)
      unfold wrongAt
      rw [clash_other (by omega) h1 (by omega), Bool.or_false]
      rcases this with rfl | rfl | rfl | rfl | rfl | rfl
      · exact congrArg (fun b => !b) e
      · exact absurd rfl h1
      · exact congrArg (fun b => !b) e
      · exact congrArg (fun b => !b) e
      · exact congrArg (fun b => !b) e
      · exact congrArg (fun b => !b) e
  · unfold wrongAt
    rw [clash_6]
    show (!Ra.among (.bl true) (chAt 6) || (decide (V.bl true = V.bl true) && decide (V.str " " = V.str " "))) = true
    rw [decide_eq_true (p := V.bl true = V.bl true) rfl, decide_eq_true (p := V.str " " = V.str " ") rfl]
    simp
/-! ### data: four of the parts -/
def P8.vsA (p : P8) : List V := [.str p.pt, .str p.cm, .int p.rs, .bl p.mu]
def P8.vsB (p : P8) : List V := [.str p.sg, .bl p.ze, .bl p.bl, .bl p.ex]
def P8.datA (p : P8) : List PyData := [.str p.pt, .str p.cm, .int p.rs, .bool p.mu]
def P8.datB (p : P8) : List PyData := [.str p.sg, .bool p.ze, .bool p.bl, .bool p.ex]
theorem P8.dpA {K : PySem.W.Frag} {H : Hp} (p : P8) : DpAll K H p.vsA p.datA := .cons (.str _) (.cons (.str _) (.cons (.int _) (.cons (.bl _) .nil)))
theorem P8.dpB {K : PySem.W.Frag} {H : Hp} (p : P8) : DpAll K H p.vsB p.datB := .cons (.str _) (.cons (.bl _) (.cons (.bl _) (.cons (.bl _) .nil)))
theorem P8.shapedA (p : P8) (h : p.Dom) : SeqAt.shaped (.tuple p.datA) = true := by
  refine Bool.and_eq_true_iff.mpr ⟨?_, decide_eq_true ?_⟩
  · simp only [PyData.canLay0, P8.datA, PyData.canLayAll0]
    rw [ok_pt h.pt, ok_cm h.cm]
    rfl
  · simp only [PyData.depth, P8.datA, PyData.depthAll]
    omega
theorem P8.shapedB (p : P8) (h : p.Dom) : SeqAt.shaped (.tuple p.datB) = true := by
  refine Bool.and_eq_true_iff.mpr ⟨?_, decide_eq_true ?_⟩
  · simp only [PyData.canLay0, P8.datB, PyData.canLayAll0]
    rw [ok_sg h.sg]
    rfl
  · simp only [PyData.depth, P8.datB, PyData.depthAll]
    omega
theorem eqv_self {d : PyData} (h : SeqAt.shaped d = true) : PyData.eqv d d = true := SeqAt.eqv_refl d (SeqAt.canLay_of_shaped h)
theorem wholeA {n : Nat} (h : n = 8) : ¬ (HT.sIx n 0 none = 0 ∧ HT.sIx n n (some 4) = n) := by subst h; decide
theorem wholeB {n : Nat} (h : n = 8) : ¬ (HT.sIx n 0 (some 4) = 0 ∧ HT.sIx n n none = n) := by subst h; decide
theorem wholeC {n : Nat} (h : n = 8) : ¬ (HT.sIx n 0 (some 2) = 0 ∧ HT.sIx n n none = n) := by subst h; decide
theorem wholeD {n : Nat} (h : n = 8) : ¬ (HT.sIx n 0 (some 2) = 0 ∧ HT.sIx n n (some 6) = n) := by subst h; decide
/-! ### the odd values of the law -/
theorem odd0 {H : Hp} {q : Addr} (h : H q = some (.tup [.str "."])) : ∀ v ∈ [V.non, V.str ";", V.str "..", V.int 0, V.ref q], OddOk H 0 v := by
  intro v hv
  have hv2 : v = V.non ∨ v = V.str ";" ∨ v = V.str ".." ∨ v = V.int 0 ∨ v = V.ref q := by simpa using hv
  rcases hv2 with rfl | rfl | rfl | rfl | rfl
  · exact ⟨.non, by decide +kernel⟩
  · exact ⟨.str _, by decide +kernel⟩
  · exact ⟨.str _, by decide +kernel⟩
  · exact ⟨.int _, by decide +kernel⟩
  · exact ⟨.tup (xs := ["."]) h (by decide +kernel), by simp [chAt, chL, ptL, cmL, rsL, boL, sgL]⟩
theorem odd1 {H : Hp}   : ∀ v ∈ [V.non, V.str ";", V.str "''", V.int 0, V.bl true], OddOk H 1 v := by
  intro v hv
  have hv2 : v = V.non ∨ v = V.str ";" ∨ v = V.str "''" ∨ v = V.int 0 ∨ v = V.bl true := by simpa using hv
  rcases hv2 with rfl | rfl | rfl | rfl | rfl
  · exact ⟨.non, by decide +kernel⟩
  · exact ⟨.str _, by decide +kernel⟩
  · exact ⟨.str _, by decide +kernel⟩
  · exact ⟨.int _, by decide +kernel⟩
  · exact ⟨.bl _, by decide +kernel⟩
theorem odd2 {H : Hp}   : ∀ v ∈ [V.non, V.int 1, V.int 4, V.bl true, V.str "3", V.int 0], OddOk H 2 v := by
  intro v hv
  have hv2 : v = V.non ∨ v = V.int 1 ∨ v = V.int 4 ∨ v = V.bl true ∨ v = V.str "3" ∨ v = V.int 0 := by simpa using hv
  rcases hv2 with rfl | rfl | rfl | rfl | rfl | rfl
  · exact ⟨.non, by decide +kernel⟩
  · exact ⟨.int _, by decide +kernel⟩
  · exact ⟨.int _, by decide +kernel⟩
  · exact ⟨.bl _, by decide +kernel⟩
  · exact ⟨.str _, by decide +kernel⟩
  · exact ⟨.int _, by decide +kernel⟩
theorem odd3 {H : Hp}   : ∀ v ∈ [V.non, V.int 0, V.int 1, V.str "True"], OddOk H 3 v := by
  intro v hv
  have hv2 : v = V.non ∨ v = V.int 0 ∨ v = V.int 1 ∨ v = V.str "True" := by simpa using hv
  rcases hv2 with rfl | rfl | rfl | rfl
  · exact ⟨.non, by decide +kernel⟩
  · exact ⟨.int _, by decide +kernel⟩
  · exact ⟨.int _, by decide +kernel⟩
  · exact ⟨.str _, by decide +kernel⟩
theorem odd4 {H : Hp} {q : Addr} (h : H q = some (.tup [.str "ahead"])) : ∀ v ∈ [V.non, V.str "", V.str "Ahead", V.int 0, V.ref q], OddOk H 4 v := by
  intro v hv
  have hv2 : v = V.non ∨ v = V.str "" ∨ v = V.str "Ahead" ∨ v = V.int 0 ∨ v = V.ref q := by simpa using hv
  rcases hv2 with rfl | rfl | rfl | rfl | rfl
  · exact ⟨.non, by decide +kernel⟩
  · exact ⟨.str _, by decide +kernel⟩
  · exact ⟨.str _, by decide +kernel⟩
  · exact ⟨.int _, by decide +kernel⟩
  · exact ⟨.tup (xs := ["ahead"]) h (by decide +kernel), by simp [chAt, chL, ptL, cmL, rsL, boL, sgL]⟩
theorem odd5 {H : Hp}   : ∀ v ∈ [V.non, V.int 0, V.int 1, V.str "False"], OddOk H 5 v := by
  intro v hv
  have hv2 : v = V.non ∨ v = V.int 0 ∨ v = V.int 1 ∨ v = V.str "False" := by simpa using hv
  rcases hv2 with rfl | rfl | rfl | rfl
  · exact ⟨.non, by decide +kernel⟩
  · exact ⟨.int _, by decide +kernel⟩
  · exact ⟨.int _, by decide +kernel⟩
  · exact ⟨.str _, by decide +kernel⟩
theorem odd6 {H : Hp} {q : Addr} (h : H q = some (.tup [])) : ∀ v ∈ [V.non, V.int 0, V.int 1, V.ref q], OddOk H 6 v := by
  intro v hv
  have hv2 : v = V.non ∨ v = V.int 0 ∨ v = V.int 1 ∨ v = V.ref q := by simpa using hv
  rcases hv2 with rfl | rfl | rfl | rfl
  · exact ⟨.non, by decide +kernel⟩
  · exact ⟨.int _, by decide +kernel⟩
  · exact ⟨.int _, by decide +kernel⟩
  · exact ⟨.tup (xs := []) h (by decide), by simp [chAt, chL, ptL, cmL, rsL, boL, sgL]⟩
theorem odd7 {H : Hp} {q : Addr} (h : H q = some (.dK [])) : ∀ v ∈ [V.non, V.int 0, V.int 1, V.ref q], OddOk H 7 v := by
  intro v hv
  have hv2 : v = V.non ∨ v = V.int 0 ∨ v = V.int 1 ∨ v = V.ref q := by simpa using hv
  rcases hv2 with rfl | rfl | rfl | rfl
  · exact ⟨.non, by decide +kernel⟩
  · exact ⟨.int _, by decide +kernel⟩
  · exact ⟨.int _, by decide +kernel⟩
  · exact ⟨.dct h rfl, by simp [chAt, chL, ptL, cmL, rsL, boL, sgL]⟩
/-! ### an error of a class is what its name in a clause names -/
theorem exm_self {K : PySem.W.Frag} {S : Addr} (h1 : PySem.W.subIn K (.ref S) (.type "BaseException") = some true) (h2 : PySem.W.isClsIn K S = true) (h3 : PySem.W.typeIn K (.ref S) = some (.type "type")) (h4 : PySem.W.subIn K (.ref S) (.ref S) = some true) :
    PySem.W.exmOne K (.ref S) (.ref S) = some true := by
  have e1 : (PySem.W.subIn K (.ref S) (.type "BaseException") == some true) = true := by rw [h1] <;> rfl
  have e2 : ((PySem.W.clsIn K S).isSome && PySem.W.typeIn K (.ref S) == some (.type "type")) = true := by
    have h2' : (PySem.W.clsIn K S).isSome = true := h2
    rw [h2', h3] <;> rfl
  show (if (PySem.W.subIn K (.ref S) (.type "BaseException") == some true) = true then (if ((PySem.W.clsIn K S).isSome && PySem.W.typeIn K (.ref S) == some (.type "type")) = true then PySem.W.subIn K (.ref S) (.ref S) else none) else none) = some true
  rw [if_pos e1, if_pos e2]
  exact h4
end Ra

namespace Ra
open PySem L2 RaX
def top (i : Nat) : Stmt := PySem.Challenge.pw_readersapart_k01_readers_refused.main.body.getD i (.Pass ⟨0, 0, 0, 0⟩)
abbrev sTaken : Stmt := top 13
/-- a draw -/
def spTaken (K : PySem.W.Frag) : Sp := fun vs H Q _ => ∃ (a : Addr) (m : Int), vs = [.ref a, .int m] ∧ 0 < m ∧ m < 1073741824 ∧ RowOk K H a ∧
  ∀ v H', 0 ≤ v → v < m → RowOk K H' a → But a H H' → Q (.int v) H'
structure Bltn (mg : Str → Option Value) : Prop where
  int : mg "int" = none
  len : mg "len" = none
section
variable {P : Program} {w : World} {K : PySem.W.Frag} {mg : Str → Option Value} {base : Heap} {CX : CXT}
theorem scTk : FnScope ["_law_row", "_law_many", "_law_found", "_law_cell"] ["_law_row", "_law_many"] (defScope sTaken) := ⟨rfl, rfl, rfl, by decide +kernel, rfl, by decide +kernel, by decide +kernel⟩
theorem ok_taken {f : Addr} {fd : FuncData} (F : Fun K "_law_taken" "_law_taken" sTaken f fd) (T : Bltn mg) : FnOk P w K mg base CX0 1 f fd ["_law_row", "_law_many"] (spTaken K) := by
  refine F.ok scTk (fun vs H Q E h => ?_) (fun cdv A outer s H vs Q E hr h => ?_)
  · obtain ⟨a, m, rfl, _⟩ := h
    rfl
  · obtain ⟨a, m, rfl, hm0, hm1, ⟨sc, ns, i, z, r, R⟩, k⟩ := h
    refine ⟨_, pss_cons (ps_if (pt_cmpR op_gt (pe_ix ix_list (pv 0) pe_int (fun _ _ => rfl)) pe_int (nomark _))
        (pss_cons (ps_set (i := 2) scTk.nd rfl (Or.inl rfl) (pe_op op_mod (pe_callTy call_int1 rfl T.int PyProof.Rows.boot_int (pa_cons (pe_ix ix_list (pv 0) pe_int (fun _ _ => rfl)) pa_nil)) (pv 1)))
        (pss_cons (ps_asg (pe_op op_fdiv (pe_ix ix_list (pv 0) pe_int (fun _ _ => rfl)) (pv 1)) (pg_sub (pv 0) pe_int set_list))
        (pss_one (ps_ret (pv 2))))) pss_nil)
      (pss_cons (ps_asg (pe_op op_add (pe_ix ix_list (pv 0) pe_int (fun _ _ => rfl)) pe_int) (pg_sub (pv 0) pe_int set_list))
      (pss_cons (ps_if (pt_cmpR op_gt (pe_ix ix_list (pv 0) pe_int (fun _ _ => rfl)) (pe_callB call_len_seq rfl T.len PySem.boot_len (pa_cons (pe_ix ix_list (pv 0) pe_int (fun _ _ => rfl)) pa_nil)) (nomark _))
        (pss_cons (ps_asg (pe_op op_mod (pe_callTy call_int1 rfl T.int PyProof.Rows.boot_int (pa_cons (pe_op op_add (pe_op op_mul (pe_ix ix_list (pv 0) pe_int (fun _ _ => rfl)) pe_int) pe_int) pa_nil)) pe_int) (pg_sub (pv 0) pe_int set_list))
        (pss_one (ps_ret (pe_op op_mod (pe_callTy call_int1 rfl T.int PyProof.Rows.boot_int (pa_cons (pe_op op_fdiv (pe_ix ix_list (pv 0) pe_int (fun _ _ => rfl)) pe_int) pa_nil)) (pv 1))))) pss_nil)
      (pss_cons (ps_set (i := 3) scTk.nd rfl (Or.inl rfl) (pe_ix ix_list (pe_ix ix_list (pv 0) pe_int (fun _ _ => rfl)) (pe_op op_sub (pe_ix ix_list (pv 0) pe_int (fun _ _ => rfl)) pe_int) (fun _ _ => rfl)))
      (pss_cons (ps_asg (pe_op op_mod (pe_callTy call_int1 rfl T.int PyProof.Rows.boot_int (pa_cons (pe_op op_add (pe_op op_add (pe_op op_mul (pe_ix ix_list (pv 0) pe_int (fun _ _ => rfl)) pe_int) (pv 3)) pe_int) pa_nil)) pe_int) (pg_sub (pv 0) pe_int set_list))
      (pss_cons (ps_if (pt_cmpR op_ge (pv 3) (pe_op op_pow pe_int pe_int) (nomark _))
        (pss_one (ps_asg (pe_op op_fdiv (pv 3) (pv 1)) (pg_sub (pv 0) pe_int set_list))) pss_nil)
      (pss_one (ps_ret (pe_op op_mod (pe_callTy call_int1 rfl T.int PyProof.Rows.boot_int (pa_cons (pv 3) pa_nil)) (pv 1))))))))), ?_⟩
    refine ⟨_, rfl, a, _, _, _, rfl, rfl, SqL.of R.row, rfl, _, _, rfl, rfl, _, rfl, ?_⟩
    refine ite2 (fun c => ?_) fun c => ?_
    · -- a rest is left
      refine ⟨_, rfl, a, _, _, _, rfl, rfl, SqL.of R.row, rfl, .inl ⟨_, rfl, _, rfl, _, _, rfl, rfl, hm0, ?_⟩⟩
      refine ⟨_, rfl, a, _, _, _, rfl, rfl, SqL.of R.row, rfl, _, rfl, _, _, rfl, rfl, ⟨hm0, hm1⟩, _, rfl, a, _, _, _, rfl, rfl, R.row, rfl, _, rfl, ?_⟩
      exact k _ _ (Int.emod_nonneg _ (by omega)) (Int.emod_lt_of_pos _ hm0) ⟨sc, ns, _, _, _, R.upd R.nn⟩ But.upd
    · have R1 : RowAt K (L2.upd H a (.lst (rowV sc (i + 1) z r))) a sc ns (i + 1) z r := R.upd (by have := R.nn; omega)
      refine ⟨_, rfl, a, _, _, _, rfl, rfl, SqL.of R.row, rfl, _, _, rfl, rfl, _, rfl, a, _, _, _, rfl, rfl, R.row, rfl, ?_⟩
      refine ⟨_, rfl, a, _, _, _, rfl, rfl, SqL.of R1.row, rfl, _, rfl, a, _, _, _, rfl, rfl, SqL.of R1.row, rfl, sc, _, rfl, .inl R1.scr, _, _, rfl, rfl, _, rfl, ?_⟩
      refine ite2 (fun c1 => ?_) fun c1 => ?_
      · -- behind the script's end
        refine ⟨_, rfl, a, _, _, _, rfl, rfl, SqL.of R1.row, rfl, _, _, rfl, rfl, .inr ⟨by decide, by decide⟩, _, _, rfl, rfl, .inl ⟨_, rfl, _, _, rfl, rfl, (by show (0 : Int) < 2147483647; decide), ?_⟩⟩
        have R2 : ∀ y, RowAt K (L2.upd (L2.upd H a (.lst (rowV sc (i + 1) z r))) a (.lst (rowV sc (i + 1) y r))) a sc ns (i + 1) y r := fun y => R1.upd R1.nn
        refine ⟨_, rfl, a, _, _, _, rfl, rfl, R1.row, rfl, ?_⟩
        refine ⟨_, rfl, a, _, _, _, rfl, rfl, SqL.of (R2 _).row, rfl, _, _, rfl, rfl, ⟨by decide, by decide⟩, .inl ⟨_, rfl, _, rfl, _, _, rfl, rfl, hm0, ?_⟩⟩
        exact k _ _ (Int.emod_nonneg _ (by omega)) (Int.emod_lt_of_pos _ hm0) ⟨sc, ns, _, _, _, R2 _⟩ (But.upd.trans But.upd)
      · -- a cell
        have hlen : (ns.map V.int).length = ns.length := List.length_map ..
        have hi : i < ns.length := by
          have q : ¬ (((ns.map V.int).length : Nat) : Int) < i + 1 := fun z => c1 (decide_eq_true z)
          omega
        have h0 := R.nn
        have hat : atI (ns.map V.int) (i + 1 - 1) = some (.int (ns.getD i.toNat 0)) := by
          have e : (i + 1 - 1 : Int) = ((i.toNat : Nat) : Int) := by omega
          rw [e]
          have hj : i.toNat < ns.length := by omega
          refine atI_nat ?_
          rw [List.getElem?_map, List.getElem?_eq_getElem hj]
          simp [hj]
        refine ⟨_, rfl, a, _, _, _, rfl, rfl, SqL.of R1.row, rfl, _, rfl, a, _, _, _, rfl, rfl, SqL.of R1.row, rfl, _, _, rfl, rfl, sc, _, _, _, rfl, rfl, R1.scr, hat, ?_⟩
        refine ⟨_, rfl, a, _, _, _, rfl, rfl, SqL.of R1.row, rfl, _, _, rfl, rfl, .inr ⟨by decide, by decide⟩, _, rfl, _, _, rfl, rfl, _, _, rfl, rfl, .inl ⟨_, rfl, _, _, rfl, rfl, (by show (0 : Int) < 2147483647; decide), ?_⟩⟩
        have R2 : ∀ y, RowAt K (L2.upd (L2.upd H a (.lst (rowV sc (i + 1) z r))) a (.lst (rowV sc (i + 1) y r))) a sc ns (i + 1) y r := fun y => R1.upd R1.nn
        refine ⟨_, rfl, a, _, _, _, rfl, rfl, R1.row, rfl, ?_⟩
        refine ⟨_, rfl, _, _, rfl, rfl, ⟨by decide, by decide, by decide⟩, _, _, rfl, rfl, _, rfl, ?_⟩
        refine ite2 (fun c2 => ?_) fun c2 => ?_
        · refine ⟨_, rfl, _, rfl, _, _, rfl, rfl, ⟨hm0, hm1⟩, _, rfl, a, _, _, _, rfl, rfl, (R2 _).row, rfl, ?_⟩
          refine ⟨_, rfl, .inl ⟨_, rfl, _, rfl, _, _, rfl, rfl, hm0, ?_⟩⟩
          exact k _ _ (Int.emod_nonneg _ (by omega)) (Int.emod_lt_of_pos _ hm0) ⟨sc, ns, _, _, _, (R2 _).upd (R2 0).nn⟩ ((But.upd.trans But.upd).trans But.upd)
        · refine ⟨_, rfl, .inl ⟨_, rfl, _, rfl, _, _, rfl, rfl, hm0, ?_⟩⟩
          exact k _ _ (Int.emod_nonneg _ (by omega)) (Int.emod_lt_of_pos _ hm0) ⟨sc, ns, _, _, _, R2 _⟩ (But.upd.trans But.upd)
end
end Ra

namespace Ra
open PySem L2 RaX
abbrev sParts : Stmt := top 14
/-- the parts of a reader, drawn -/
def spParts (K : PySem.W.Frag) : Sp := fun vs H Q _ => ∃ (a : Addr), vs = [.ref a] ∧ RowOk K H a ∧
  ∀ (p : P8) (t : Addr) (H' : Hp), p.Ok → RowOk K H' a → But a H H' → H' t = some (.tup p.vs) → Q (.ref t) H'
structure TkG (K : PySem.W.Frag) (mg : Str → Option Value) (f : Addr) (fd : FuncData) : Prop where
  g : mg "_law_taken" = some (.ref f)
  k : PySem.W.keepIn K (.ref f) = true
  b : Binds K fd ["_law_row", "_law_many"] []
section
variable {P : Program} {w : World} {K : PySem.W.Frag} {mg : Str → Option Value} {base : Heap} {CX : CXT}
theorem scPa : FnScope ["_law_row", "_law_point", "_law_comma", "_law_blanks", "_law_sign", "_law_ahead"] ["_law_row"] (defScope sParts) := ⟨rfl, rfl, rfl, by decide +kernel, rfl, by decide +kernel, by decide +kernel⟩
theorem ok_parts {f f1 : Addr} {fd fd1 : FuncData} (F : Fun K "_law_parts" "_law_parts" sParts f fd) (G : FnOk P w K mg base CX0 1 f1 fd1 ["_law_row", "_law_many"] (spTaken K)) (g : TkG K mg f1 fd1) :
    FnOk P w K mg base CX0 2 f fd ["_law_row"] (spParts K) := by
  refine F.ok scPa (fun vs H Q E h => ?_) (fun cdv A outer s H vs Q E hr h => ?_)
  · obtain ⟨a, rfl, _⟩ := h
    rfl
  · obtain ⟨a, rfl, R, k⟩ := h
    refine ⟨_, (pss_cons (ps_set (i := 1) scPa.nd rfl (Or.inl rfl) (pe_ix ix_list (pe_lst (pa_cons pe_str (pa_cons pe_str (pa_cons pe_str pa_nil)))) (pe_call G hr rfl g.g g.k g.b .nil pass0 (pa_cons (pv 0) (pa_cons pe_int pa_nil))) (fun _ _ => rfl)))
      (pss_cons (ps_set (i := 2) scPa.nd rfl (Or.inl rfl) (pe_ix ix_list (pe_lst (pa_cons pe_str (pa_cons pe_str (pa_cons pe_str (pa_cons pe_str (pa_cons pe_str pa_nil)))))) (pe_call G hr rfl g.g g.k g.b .nil pass0 (pa_cons (pv 0) (pa_cons pe_int pa_nil))) (fun _ _ => rfl)))
      (C8.pss_cut (ps_if (pt_cmpR op_eq (pv 2) (pv 1) (nomark _)) (pss_one (ps_set (i := 2) scPa.nd rfl (Or.inl rfl) (pe_ix ix_list (pe_lst (pa_cons pe_str (pa_cons pe_str pa_nil))) (pe_call G hr rfl g.g g.k g.b .nil pass0 (pa_cons (pv 0) (pa_cons pe_int pa_nil))) (fun _ _ => rfl)))) pss_nil)
      (C8.pss_cut (ps_set (i := 3) scPa.nd rfl (Or.inl rfl) (pe_and (pe_cmpR op_eq (pe_call G hr rfl g.g g.k g.b .nil pass0 (pa_cons (pv 0) (pa_cons pe_int pa_nil))) pe_int (nomark _)) (pe_one (pe_cmpR op_ne (pv 2) pe_str (nomark _)))))
      (pss_cons (ps_set (i := 4) scPa.nd rfl (Or.inl rfl) (pe_ix ix_list (pe_lst (pa_cons pe_str (pa_cons pe_str (pa_cons pe_str pa_nil)))) (pe_call G hr rfl g.g g.k g.b .nil pass0 (pa_cons (pv 0) (pa_cons pe_int pa_nil))) (fun _ _ => rfl)))
      (pss_cons (ps_set (i := 5) scPa.nd rfl (Or.inl rfl) (pe_tup (pa_cons (pv 1) (pa_cons (pv 2) (pa_cons (pe_op op_sub pe_int (pe_call G hr rfl g.g g.k g.b .nil pass0 (pa_cons (pv 0) (pa_cons pe_int pa_nil)))) (pa_cons (pe_cmpR op_eq (pe_call G hr rfl g.g g.k g.b .nil pass0 (pa_cons (pv 0) (pa_cons pe_int pa_nil))) pe_int (nomark _)) pa_nil))))))
      (pss_one (ps_ret (pe_op op_catT (pv 5) (pe_tup (pa_cons (pv 4) (pa_cons (pe_cmpR op_eq (pe_call G hr rfl g.g g.k g.b .nil pass0 (pa_cons (pv 0) (pa_cons pe_int pa_nil))) pe_int (nomark _)) (pa_cons (pv 3) (pa_cons (pe_cmpR op_eq (pe_call G hr rfl g.g g.k g.b .nil pass0 (pa_cons (pv 0) (pa_cons pe_int pa_nil))) pe_int (nomark _)) pa_nil)))))))))))))), ?_⟩
    -- the point
    refine ⟨by show 3 ≤ sizeLine; decide, fun l hl => ⟨_, rfl, a, 3, rfl, by decide, by decide, R.new hl, fun v H1 v0 v1 R1 B1 => ?_⟩⟩
    obtain ⟨x, hx, mx⟩ := pick (xs := ptL) v0 v1
    obtain ⟨pt, rfl, hpt⟩ := ptL_str mx
    refine ⟨l, _, _, _, rfl, rfl, SqL.of (B1 l _ (R.ne hl) upd_same), hx, ?_⟩
    have C1 : But a H H1 := (But.new hl).trans B1
    clear B1 hx mx v0 v1
    -- the comma
    refine ⟨by show 5 ≤ sizeLine; decide, fun l2 hl2 => ⟨_, rfl, a, 5, rfl, by decide, by decide, R1.new hl2, fun v2 H2 v0 v1 R2 B2 => ?_⟩⟩
    obtain ⟨x, hx, mx⟩ := pick (xs := cmL) v0 v1
    obtain ⟨cm, rfl, hcm⟩ := cmL_str mx
    refine ⟨l2, _, _, _, rfl, rfl, SqL.of (B2 l2 _ (R1.ne hl2) upd_same), hx, ?_⟩
    have C2 : But a H H2 := C1.trans ((But.new hl2).trans B2)
    clear B2 hx mx v0 v1 R1 C1
    -- where both are alike
    refine ⟨fun σ H3 => ∃ cm', σ = [some (.ref a), some (.str pt), some (.str cm'), none, none, none] ∧ V.str cm' ∈ cmL ∧ (cm' = "" ∨ cm' ≠ pt) ∧ RowOk K H3 a ∧ But a H H3, ?_, ?_⟩
    · refine ⟨_, rfl, _, rfl, rfl, _, rfl, ?_⟩
      refine ite2 (fun c => ?_) fun c => ?_
      · refine ⟨by show 2 ≤ sizeLine; decide, fun l3 hl3 => ⟨_, rfl, a, 2, rfl, by decide, by decide, R2.new hl3, fun v3 H3 v0 v1 R3 B3 => ?_⟩⟩
        obtain ⟨x, hx, mx⟩ := pick (xs := [V.str "'", V.str ""]) v0 v1
        have hq : x = V.str "'" ∨ x = V.str "" := by simpa using mx
        have C3 : But a H H3 := C2.trans ((But.new hl3).trans B3)
        have hs := SqL.of (K := K) (B3 l3 _ (R2.ne hl3) upd_same)
        rcases hq with rfl | rfl
        · refine ⟨l3, _, _, _, rfl, rfl, hs, hx, "'", rfl, by simp [cmL], .inr ?_, R3, C3⟩
          intro z
          rw [← z] at hpt
          revert hpt
          decide +kernel
        · exact ⟨l3, _, _, _, rfl, rfl, hs, hx, "", rfl, by simp [cmL], .inl rfl, R3, C3⟩
      · refine ⟨cm, rfl, hcm, .inr fun z => c (decide_eq_true (by rw [z])), R2, C2⟩
    clear hcm R2 C2 cm
    rintro _ H3 ⟨cm, rfl, hcm, hne, R3, C3⟩
    -- blanks
    refine ⟨fun σ H4 => ∃ b : Bool, σ = [some (.ref a), some (.str pt), some (.str cm), some (.bl b), none, none] ∧ ¬ (b = true ∧ cm = " ") ∧ RowOk K H4 a ∧ But a H H4, ?_, ?_⟩
    · refine ⟨_, rfl, a, 3, rfl, by decide, by decide, R3, fun v4 H4 v0 v1 R4 B4 => ⟨rfl, _, rfl, ?_⟩⟩
      refine ite2 (fun c => ?_) fun c => ?_
      · exact ⟨_, rfl, rfl, _, rfl, fun z => by
          have q : (!decide (V.str cm = V.str " ")) = true := z.1
          rw [z.2] at q
          exact absurd q (by decide), R4, C3.trans B4⟩
      · exact ⟨false, rfl, fun z => Bool.noConfusion z.1, R4, C3.trans B4⟩
    clear R3 C3
    rintro _ H4 ⟨b, rfl, hb, R4, C4⟩
    -- the sign
    refine ⟨by show 3 ≤ sizeLine; decide, fun l5 hl5 => ⟨_, rfl, a, 3, rfl, by decide, by decide, R4.new hl5, fun v5 H5 v0 v1 R5 B5 => ?_⟩⟩
    obtain ⟨x, hx, mx⟩ := pick (xs := sgL) v0 v1
    obtain ⟨sg, rfl, hsg⟩ := sgL_str mx
    refine ⟨l5, _, _, _, rfl, rfl, SqL.of (B5 l5 _ (R4.ne hl5) upd_same), hx, ?_⟩
    have C5 : But a H H5 := C4.trans ((But.new hl5).trans B5)
    clear B5 hx mx v0 v1 R4 C4
    -- the first four
    refine ⟨_, rfl, _, rfl, _, rfl, a, 2, rfl, by decide, by decide, R5, fun v6 H6 v60 v61 R6 B6 => ⟨_, _, rfl, rfl, ?_⟩⟩
    refine ⟨_, rfl, a, 2, rfl, by decide, by decide, R6, fun v7 H7 v70 v71 R7 B7 => ⟨rfl, ?_⟩⟩
    refine ⟨by show 4 ≤ sizeLine; decide, fun t8 ht8 => ?_⟩
    have R8 := R7.new (o := .tup [V.str pt, V.str cm, V.int (3 - v6), V.bl (decide (V.int v7 = V.int 0))]) ht8
    have C8 : But a H _ := ((C5.trans B6).trans B7).trans (But.new (o := .tup [V.str pt, V.str cm, V.int (3 - v6), V.bl (decide (V.int v7 = V.int 0))]) ht8)
    -- and the last
    refine ⟨_, rfl, _, rfl, _, rfl, a, 3, rfl, by decide, by decide, R8, fun v9 H9 v90 v91 R9 B9 => ⟨rfl, ?_⟩⟩
    refine ⟨_, rfl, _, rfl, a, 3, rfl, by decide, by decide, R9, fun v10 H10 v100 v101 R10 B10 => ⟨rfl, ?_⟩⟩
    have e8 := (B9.trans B10) t8 _ (R7.ne ht8) upd_same
    refine ⟨by show 4 ≤ sizeLine; decide, fun t11 ht11 => ?_⟩
    refine ⟨t8, t11, _, _, rfl, rfl, SqT.of (Same.new ht11 t8 _ e8), SqT.of upd_same, (by intro z; cases z), (by show 8 ≤ sizeLine; decide), (fun z => nomatch z), fun _ t12 ht12 => ?_⟩
    refine k ⟨pt, cm, 3 - v6, decide (V.int v7 = V.int 0), sg, decide (V.int v9 = V.int 0), b, decide (V.int v10 = V.int 0)⟩ t12 _ ⟨⟨hpt, hcm, ?_, hsg⟩, hne, hb⟩ ((R10.new ht11).new ht12) (((C8.trans B9).trans B10).trans ((But.new ht11).trans (But.new ht12))) upd_same
    have : v6 = 0 ∨ v6 = 1 := by omega
    rcases this with rfl | rfl <;> simp [rsL]
end
end Ra

namespace Ra
open PySem L2 RaX
abbrev sAmong : Stmt := top 10
/-- is the value one of the choices -/
def spAmong (K : PySem.W.Frag) : Sp := fun vs H Q _ => ∃ (v : V) (c : Addr) (bo : Bool) (cs : List V), vs = [v, .ref c] ∧ ValOk H bo v ∧ SqT K H c cs ∧ Chs bo cs ∧ cs.length ≤ 1000 ∧
  ∀ H', Same H H' → Q (.bl (among v cs)) H'
structure BltnR (mg : Str → Option Value) : Prop where
  isi : mg "isinstance" = none
  bool : mg "bool" = none
  any : mg "any" = none
  zip : mg "zip" = none
section
variable {P : Program} {w : World} {K : PySem.W.Frag} {mg : Str → Option Value} {base : Heap} {CX : CXT}
theorem scAm : FnScope ["value", "choices", "choice"] ["value", "choices"] (defScope sAmong) := ⟨rfl, rfl, rfl, by decide +kernel, rfl, by decide +kernel, by decide +kernel⟩
theorem ok_among {f : Addr} {fd : FuncData} (F : Fun K "_is_among" "_is_among" sAmong f fd) (T : BltnR mg) : FnOk P w K mg base CX0 1 f fd ["value", "choices"] (spAmong K) := by
  refine F.ok scAm (fun vs H Q E h => ?_) (fun cdv A outer s H vs Q E hr h => ?_)
  · obtain ⟨v, c, bo, cs, rfl, _⟩ := h
    rfl
  · obtain ⟨v, c, bo, cs, rfl, hv, hc, hcs, hlen, k⟩ := h
    refine ⟨_, pss_one (ps_ret (pe_callB (cr_any rfl) rfl T.any bt_any (pa_cons
      (pe_lc (own := [("choice", 2)]) (g := gName 2) (by rfl) scAm.nd (pi_tup (pv 1)) (blkOk_by (own := [("choice", 2)]) (N := ["value", "choices", "choice"]) (sc := defScope sAmong) (by decide +kernel)) (fun _ _ _ _ _ => pg_name (i := 2) scAm.nd rfl (Or.inl rfl)) (fun _ _ _ _ _ => pts_nil)
        (fun _ _ _ _ _ => (pe_and (pe_cmpR op_eq (pe_callB isiK rfl T.isi bt_isinstance (pa_cons (pv 0) (pa_cons (pe_bltn (v := .ty "bool") rfl T.bool bt_bool rfl) pa_nil))) (pe_callB isiK rfl T.isi bt_isinstance (pa_cons (pv 2) (pa_cons (pe_bltn (v := .ty "bool") rfl T.bool bt_bool rfl) pa_nil))) (nomark _))
          (pe_one (pe_cmpR (op_eq.or (eqDK hr.units)) (pv 0) (pv 2) (nomark _))))))
      pa_nil))), ?_⟩
    have nD : ∀ {D : Addr}, H D = none → ∀ {xs : List V} {H' : Hp}, Same H H' → Same H (L2.upd H' D (.lst xs)) := fun {D} hD {xs} {H'} s b o e => by
      rw [upd_ne (ne_of_none e hD)]
      exact s b o e
    refine ⟨_, rfl, c, rfl, ⟨_, hc⟩, fun D hD => lc_tup (K := K) (a := c) (xs := cs) (fun i H' => Same H H' ∧ H' D = some (.lst ((cs.take i).map fun c => V.bl ((isB v == isB c) && decide (v = c))))) ⟨Same.new hD, upd_same⟩ (fun i H' _ p => Same.seqT p.1 hc) ?_ ?_⟩
    · rintro i x H' hi ⟨s', hD'⟩
      have mx : x ∈ cs := List.mem_of_getElem? hi
      obtain ⟨t1, y1, z1⟩ := isi_bool (K := K) (hv.same s')
      obtain ⟨t2, y2, z2⟩ := isi_flat (K := K) (H := H') hcs mx
      have el : ((cs.take i).map fun c => V.bl ((isB v == isB c) && decide (v = c))).length < sizeLine := by
        have l1 : (cs.take i).length ≤ cs.length := by
          rw [List.length_take]
          exact Nat.min_le_right _ _
        rw [List.length_map]
        exact small1000 (by omega)
      refine ⟨rfl, _, rfl, _, _, _, _, _, rfl, .ty "bool", y1, z1, _, rfl, _, _, _, _, _, rfl, .ty "bool", y2, z2, rfl, _, rfl, ?_⟩
      have ez : decide (V.bl (isB v) = V.bl (isB x)) = (isB v == isB x) := dec_bl
      rw [ez]
      by_cases e : isB v = isB x
      · have e' : (isB v == isB x) = true := by rw [e]; simp
        rw [e']
        refine iteT ⟨_, rfl, _, rfl, eq_one (hv.same s') hcs mx e ?_⟩
        refine ⟨_, hD', el, nD hD s', ?_⟩
        rw [upd_same, take_more hi, List.map_append]
        show some (HO.lst (_ ++ [V.bl (decide (v = x))])) = some (HO.lst (_ ++ [V.bl ((isB v == isB x) && decide (v = x))]))
        rw [e', Bool.true_and]
      · have e' : (isB v == isB x) = false := by simpa using e
        rw [e']
        refine iteF ⟨_, hD', el, nD hD s', ?_⟩
        rw [upd_same, take_more hi, List.map_append]
        show some (HO.lst (_ ++ [V.bl false])) = some (HO.lst (_ ++ [V.bl ((isB v == isB x) && decide (v = x))]))
        rw [e', Bool.false_and]
    · rintro H' ⟨s', hD'⟩
      rw [List.take_length] at hD'
      refine ⟨D, cs.map (fun c => (isB v == isB c) && decide (v = c)), rfl, SqL.of (by rw [hD', List.map_map]; rfl), ?_⟩
      have e : (cs.map (fun c => (isB v == isB c) && decide (v = c))).any id = among v cs := by
        rw [List.any_map]
        rfl
      rw [e]
      exact k _ s'
end
abbrev sClash : Stmt := top 11
abbrev sFirst : Stmt := top 9
/-- a part beside those ahead of it -/
def spClash (K : PySem.W.Frag) : Sp := fun vs H Q _ => ∃ (nm : Str) (t : Addr) (ws : List V), vs = [.str nm, .ref t] ∧ H t = some (.tup ws) ∧ ws.length = 8 ∧
  (nm = "comma" → (∃ x, at_ ws 0 = .str x) ∧ ∃ x, at_ ws 1 = .str x) ∧ (nm = "blanks" → (∃ x, at_ ws 1 = .str x) ∧ ∃ b, at_ ws 6 = .bl b) ∧ Q (.bl (clash ws nm)) H
def nameV : Option Str → V
  | some n => .str n
  | none => .non
/-- the name of the first part that cannot be -/
def spFirst (K : PySem.W.Frag) : Sp := fun vs H Q _ => ∃ (t : Addr) (ws : List V), vs = [.ref t] ∧ H t = some (.tup ws) ∧ ws.length = 8 ∧ (∀ i, i < 8 → ValOk H (boAt i) (at_ ws i)) ∧
  ∀ H', Same H H' → Q (nameV (firstWrong ws)) H'
/-- a global def, how it is called -/
structure GFn (K : PySem.W.Frag) (mg : Str → Option Value) (x : Str) (f : Addr) (fd : FuncData) (ps : List Str) : Prop where
  g : mg x = some (.ref f)
  k : PySem.W.keepIn K (.ref f) = true
  b : Binds K fd ps []
structure TFw (K : PySem.W.Frag) (mg : Str → Option Value) (c0 : Addr) : Prop where
  zip : mg "zip" = none
  ch : mg "CHOICES" = some (.ref c0)
  chk : ChK K c0
section
variable {P : Program} {w : World} {K : PySem.W.Frag} {mg : Str → Option Value} {base : Heap} {CX : CXT}
theorem scCl : FnScope ["name", "values"] ["name", "values"] (defScope sClash) := ⟨rfl, rfl, rfl, by decide +kernel, rfl, by decide +kernel, by decide +kernel⟩
theorem ok_clash {f : Addr} {fd : FuncData} (F : Fun K "_clashes" "_clashes" sClash f fd) : FnOk P w K mg base CX0 1 f fd ["name", "values"] (spClash K) := by
  refine F.ok scCl (fun vs H Q E h => ?_) (fun cdv A outer s H vs Q E hr h => ?_)
  · obtain ⟨nm, t, ws, rfl, _⟩ := h
    rfl
  · obtain ⟨nm, t, ws, rfl, ht, hl, h1, h2, k⟩ := h
    refine ⟨_, (pss_cons (ps_if (pt_cmpR op_eq (pv 0) pe_str (nomark _)) (pss_one (ps_ret (pe_and (pe_cmpR op_ne (pe_ix ix_tup (pv 1) pe_int (fun _ _ => rfl)) pe_str (nomark _)) (pe_one (pe_cmpR op_eq (pe_ix ix_tup (pv 1) pe_int (fun _ _ => rfl)) (pe_ix ix_tup (pv 1) pe_int (fun _ _ => rfl)) (nomark _)))))) pss_nil)
      (pss_one (ps_ret (pe_and (pe_cmpR op_eq (pv 0) pe_str (nomark _)) (pe_and (pe_ix ix_tup (pv 1) pe_int (fun _ _ => rfl)) (pe_one (pe_cmpR op_eq (pe_ix ix_tup (pv 1) pe_int (fun _ _ => rfl)) pe_str (nomark _)))))))), ?_⟩
    have a0 : atI ws 0 = some (at_ ws 0) := atI_at (i := 0) (by omega)
    have a1 : atI ws 1 = some (at_ ws 1) := atI_at (i := 1) (by omega)
    have a6 : atI ws 6 = some (at_ ws 6) := atI_at (i := 6) (by omega)
    refine ⟨_, rfl, rfl, _, rfl, ite2 (fun c => ?_) fun c => ?_⟩
    · have en : nm = "comma" := V.str.inj (of_decide_eq_true c)
      obtain ⟨⟨x, e0⟩, y, e1⟩ := h1 en
      have ek : clash ws nm = (!decide (V.str y = V.str "") && decide (V.str y = V.str x)) := by
        unfold clash
        rw [if_pos en, e0, e1]
      rw [ek] at k
      refine ⟨_, rfl, t, _, _, _, rfl, rfl, SqT.of ht, a1, ?_⟩
      rw [e1]
      refine ⟨rfl, _, rfl, ite2 (fun c2 => ?_) fun c2 => ?_⟩
      · rw [c2] at k
        refine ⟨_, rfl, t, _, _, _, rfl, rfl, SqT.of ht, a1, _, rfl, t, _, _, _, rfl, rfl, SqT.of ht, a0, ?_⟩
        rw [e0, e1]
        exact ⟨rfl, k⟩
      · have z : (!decide (V.str y = V.str "")) = false := by simpa using c2
        rw [z] at k
        exact k
    · have en : ¬ nm = "comma" := fun z => c (decide_eq_true (by rw [z]))
      have ek : clash ws nm = (decide (nm = "blanks") && (decide (at_ ws 6 = .bl true) && decide (at_ ws 1 = .str " "))) := by
        unfold clash
        rw [if_neg en]
      rw [ek] at k
      refine ⟨_, rfl, rfl, _, rfl, ite2 (fun c2 => ?_) fun c2 => ?_⟩
      · have en2 : nm = "blanks" := V.str.inj (of_decide_eq_true c2)
        obtain ⟨⟨y, e1⟩, b, e6⟩ := h2 en2
        rw [decide_eq_true en2, Bool.true_and, e1, e6] at k
        refine ⟨_, rfl, t, _, _, _, rfl, rfl, SqT.of ht, a6, ?_⟩
        rw [e6]
        refine ⟨_, rfl, ?_⟩
        cases b with
        | true =>
          refine iteT ⟨_, rfl, t, _, _, _, rfl, rfl, SqT.of ht, a1, ?_⟩
          rw [e1]
          exact ⟨rfl, k⟩
        | false => exact iteF k
      · have en2 : ¬ nm = "blanks" := fun z => c2 (decide_eq_true (by rw [z]))
        rw [decide_eq_false en2, Bool.false_and] at k
        exact k
theorem among_str {v : V} {cs : List V} (h : among v cs = true) (hs : ∀ x ∈ cs, ∃ s, x = V.str s) : ∃ s, v = .str s := by
  obtain ⟨c, hc, e⟩ := List.any_eq_true.mp h
  obtain ⟨s, rfl⟩ := hs c hc
  rw [Bool.and_eq_true] at e
  exact ⟨s, of_decide_eq_true e.2⟩
theorem among_bl {v : V} (h : among v boL = true) : ∃ b, v = .bl b := by
  obtain ⟨c, hc, e⟩ := List.any_eq_true.mp h
  rw [Bool.and_eq_true] at e
  have e2 := of_decide_eq_true e.2
  have hq : c = V.bl false ∨ c = V.bl true := by simpa [boL] using hc
  rcases hq with rfl | rfl
  · exact ⟨_, e2⟩
  · exact ⟨_, e2⟩
theorem not_wrong {ws : List V} {i : Nat} (h : wrongAt ws i = false) : among (at_ ws i) (chAt i) = true ∧ clash ws (nameAt i) = false := by
  unfold wrongAt at h
  rw [Bool.or_eq_false_iff] at h
  exact ⟨by simpa using h.1, h.2⟩
theorem scFw : FnScope ["values", "value", "name", "choices"] ["values"] (defScope sFirst) := ⟨rfl, rfl, rfl, by decide +kernel, rfl, by decide +kernel, by decide +kernel⟩
theorem ok_first {f f1 f2 c0 : Addr} {fd fd1 fd2 : FuncData} (F : Fun K "_first_wrong" "_first_wrong" sFirst f fd) (T : TFw K mg c0) (GA : FnOk P w K mg base CX0 1 f1 fd1 ["value", "choices"] (spAmong K)) (gA : GFn K mg "_is_among" f1 fd1 ["value", "choices"])
    (GC : FnOk P w K mg base CX0 1 f2 fd2 ["name", "values"] (spClash K)) (gC : GFn K mg "_clashes" f2 fd2 ["name", "values"]) : FnOk P w K mg base CX0 2 f fd ["values"] (spFirst K) := by
  refine F.ok scFw (fun vs H Q E h => ?_) (fun cdv A outer s H vs Q E hr h => ?_)
  · obtain ⟨t, ws, rfl, _⟩ := h
    rfl
  · obtain ⟨t, ws, rfl, ht, hl, hv, k⟩ := h
    obtain ⟨q, r, hc0, hqr⟩ := T.chk
    refine ⟨_, (pss_cons (ps_for PassesOwn.never rfl (RZ.pi_zipA rfl T.zip (pa_cons (pv 0) (pa_cons (pe_glob (v := .ref c0) rfl T.ch rfl) pa_nil))) (pg_tup rfl (pgs_cons (pg_name (i := 1) scFw.nd rfl (Or.inl rfl)) (pgs_cons (pg_tup rfl (pgs_cons (pg_name (i := 2) scFw.nd rfl (Or.inl rfl)) (pgs_cons (pg_name (i := 3) scFw.nd rfl (Or.inl rfl)) pgs_nil))) pgs_nil))) (pss_one (ps_if (PW.pt (pw_or (pt_not (pt_val (pe_call GA (hr.mono (by decide)) rfl gA.g gA.k gA.b .nil pass0 (pa_cons (pv 1) (pa_cons (pv 3) pa_nil))))) (pw_or1 (pt_val (pe_call GC (hr.mono (by decide)) rfl gC.g gC.k gC.b .nil pass0 (pa_cons (pv 2) (pa_cons (pv 0) pa_nil))))))) (pss_one (ps_ret (pv 2))) pss_nil)))
      (pss_one (ps_ret pe_non))), ?_⟩
    refine ⟨_, rfl, t, c0, ws, _, rfl, .inr ⟨SqT.of ht, hc0.sq, for_zipT (by rw [hl]; rfl) (fun i σ H' => (∃ v1 v2 v3, σ = [some (.ref t), v1, v2, v3]) ∧ Same H H' ∧ ∀ j, j < i → wrongAt ws j = false)
      ⟨⟨_, _, _, rfl⟩, Same.refl H, fun j hj => absurd hj (Nat.not_lt_zero j)⟩ (fun i σ H' p => ⟨SqT.of (p.2.1 _ _ ht), hc0.sq⟩) ?_ ?_⟩⟩
    · rintro i x y T' σ H' hx hy ⟨⟨v1, v2, v3, rfl⟩, s', hw⟩ hT
      have hi : i < 8 := by
        have := (List.getElem?_eq_some_iff.mp hx).1
        omega
      obtain rfl := at_of hx
      obtain rfl : y = V.ref (q i) := by
        rw [List.getElem?_map, List.getElem?_range hi] at hy
        exact (Option.some.inj hy).symm
      obtain ⟨hq, hr'⟩ := hqr i hi
      have sT : Same H (L2.upd H' T' (.tup [at_ ws i, V.ref (q i)])) := s'.trans (Same.new hT)
      refine ⟨T', _, rfl, SqT.of upd_same, rfl, _, _, rfl, _, _, rfl, q i, _, rfl, hq.sq, rfl, _, _, rfl, _, _, rfl, rfl, rfl, ?_⟩
      refine ⟨_, rfl, _, rfl, at_ ws i, r i, boAt i, chAt i, rfl, (hv i hi).same sT, hr'.sq, chs_at i hi, ?_, fun H1 s1 => ⟨_, rfl, ?_⟩⟩
      · have : i = 0 ∨ i = 1 ∨ i = 2 ∨ i = 3 ∨ i = 4 ∨ i = 5 ∨ i = 6 ∨ i = 7 := by omega
        rcases this with rfl | rfl | rfl | rfl | rfl | rfl | rfl | rfl <;> decide
      · have s2 : Same H H1 := sT.trans s1
        cases ea : among (at_ ws i) (chAt i) with
        | false =>
          refine iteT (iteT ⟨_, rfl, ?_⟩)
          have e : firstWrong ws = some (nameAt i) := first_some hw (by unfold wrongAt; rw [ea]; rfl) hi
          rw [e] at k
          exact k _ s2
        | true =>
          refine iteF ⟨_, rfl, _, rfl, nameAt i, t, ws, rfl, s2 _ _ ht, hl, fun en => ?_, fun en => ?_, _, rfl, ?_⟩
          · have e1 : i = 1 := by
              have : i = 0 ∨ i = 1 ∨ i = 2 ∨ i = 3 ∨ i = 4 ∨ i = 5 ∨ i = 6 ∨ i = 7 := by omega
              rcases this with rfl | rfl | rfl | rfl | rfl | rfl | rfl | rfl <;> first | rfl | exact absurd en (by decide +kernel)
            subst e1
            exact ⟨among_str (not_wrong (hw 0 (by decide))).1 (by simp [chAt, chL, ptL]), among_str ea (by simp [chAt, chL, cmL])⟩
          · have e1 : i = 6 := by
              have : i = 0 ∨ i = 1 ∨ i = 2 ∨ i = 3 ∨ i = 4 ∨ i = 5 ∨ i = 6 ∨ i = 7 := by omega
              rcases this with rfl | rfl | rfl | rfl | rfl | rfl | rfl | rfl <;> first | rfl | exact absurd en (by decide +kernel)
            subst e1
            exact ⟨among_str (not_wrong (hw 1 (by decide))).1 (by simp [chAt, chL, cmL]), among_bl ea⟩
          · cases ec : clash ws (nameAt i) with
            | true =>
              refine iteT ⟨_, rfl, ?_⟩
              have e : firstWrong ws = some (nameAt i) := first_some hw (by unfold wrongAt; rw [ea, ec]; rfl) hi
              rw [e] at k
              exact k _ s2
            | false =>
              refine iteF ⟨⟨_, _, _, rfl⟩, s2, fun j hj => ?_⟩
              by_cases e : j = i
              · rw [e]
                unfold wrongAt
                rw [ea, ec]
                rfl
              · exact hw j (by omega)
    · rintro σ H' ⟨⟨v1, v2, v3, rfl⟩, s', hw⟩
      rw [hl] at hw
      have e := first_none hw
      rw [e] at k
      exact k _ s'
end
end Ra

namespace Ra
open PySem L2 RaX
abbrev sInit : Stmt := inClass (top 6) 0
abbrev sMade : Stmt := top 15
/-- a reader's making; CB: the class of the error -/
def spInit (C CB : Addr) : Sp := fun vs H Q E => ∃ (x dx : Addr) (ws : List V), vs = .ref x :: ws ∧ ws.length = 8 ∧ H x = some (.ins C dx []) ∧ (∀ i, i < 8 → ValOk H (boAt i) (at_ ws i)) ∧
  (∀ nm, firstWrong ws = some nm → ∀ d H', H' d = some (.xd [(("part" : Str), .str nm)]) → Same H H' → E (.ref CB) (some d) H') ∧
  (firstWrong ws = none → ∀ t H', H' x = some (.ins C dx [(("_parts" : Str), .ref t)]) → H' t = some (.tup ws) → (∀ b o, b ≠ x → H b = some o → H' b = some o) → Q .non H')
/-- the same, from a tuple or a list of the eight parts; C: the class -/
def spMade (K : PySem.W.Frag) (C CB : Addr) : Sp := fun vs H Q E => ∃ (t : Addr) (ws : List V), vs = [.ref t] ∧ (SqT K H t ws ∨ SqL K H t ws) ∧ ws.length = 8 ∧ (∀ i, i < 8 → ValOk H (boAt i) (at_ ws i)) ∧
  (∀ nm, firstWrong ws = some nm → ∀ d H', H' d = some (.xd [(("part" : Str), .str nm)]) → Same H H' → E (.ref CB) (some d) H') ∧
  (firstWrong ws = none → ∀ x H', RdAt C H' x ws → Same H H' → Q (.ref x) H')
/-- what the top has of the class Reader and of its error -/
structure TRd (P : Program) (K : PySem.W.Frag) (mg : Str → Option Value) (C fI CB fB : Addr) (fdI : FuncData) : Prop where
  cl : Cls K C
  nP : NoAttr K C "_parts"
  gR : mg "Reader" = some (.ref C)
  mkR : Mk K C fI
  bI : Binds K fdI ["self", "point", "comma", "rest", "must", "sign", "zeros", "blanks", "exponent"] []
  bad : BadTxt P K mg "BadPart" "part" CB fB
section
variable {P : Program} {w : World} {K : PySem.W.Frag} {mg : Str → Option Value} {base : Heap} {CX : CXT}
theorem scIn : FnScope ["self", "point", "comma", "rest", "must", "sign", "zeros", "blanks", "exponent", "values", "wrong"] ["self", "point", "comma", "rest", "must", "sign", "zeros", "blanks", "exponent"] (defScope sInit) := ⟨rfl, rfl, rfl, by decide +kernel, rfl, by decide +kernel, by decide +kernel⟩
theorem ok_init {f f1 C CB fB : Addr} {fd fd1 : FuncData} (F : Fun K "__init__" "Reader.__init__" sInit f fd) (T : TRd P K mg C f CB fB fd) (GF : FnOk P w K mg base CX0 2 f1 fd1 ["values"] (spFirst K)) (gF : GFn K mg "_first_wrong" f1 fd1 ["values"]) :
    FnOk P w K mg base (L2.CX P w) 3 f fd ["self", "point", "comma", "rest", "must", "sign", "zeros", "blanks", "exponent"] (spInit C CB) := by
  refine F.okX scIn (fun vs H Q E h => ?_) (fun cdv A outer s H vs Q E hr h => ?_)
  · obtain ⟨x, dx, ws, rfl, hl, _⟩ := h
    show ws.length + 1 = 9
    omega
  · obtain ⟨x, dx, ws, rfl, hl, hx, hv, ke, kq⟩ := h
    refine ⟨_, (pss_cons (ps_set (i := 9) scIn.nd rfl (Or.inl rfl) (pe_tup (pa_cons (pv 1) (pa_cons (pv 2) (pa_cons (pv 3) (pa_cons (pv 4) (pa_cons (pv 5) (pa_cons (pv 6) (pa_cons (pv 7) (pa_cons (pv 8) pa_nil))))))))))
      (pss_cons (ps_set (i := 10) scIn.nd rfl (Or.inl rfl) (pe_call GF (hr) rfl gF.g gF.k gF.b .nil pass0 (pa_cons (pv 9) pa_nil)))
      (pss_cons (ps_if (pt_cmpR op_notN (pv 10) pe_non (nomark _)) (pss_one (ps_raiseBad rfl T.bad hr (takes_of rfl rfl rfl rfl) (pa_cons (pv 10) pa_nil) rfl)) pss_nil)
      (pss_one (ps_fld (pv 0) (pv 9) rfl))))), ?_⟩
    obtain ⟨w0, w1, w2, w3, w4, w5, w6, w7, rfl⟩ := eight hl
    refine ⟨_, rfl, _, rfl, _, rfl, _, rfl, _, rfl, _, rfl, _, rfl, _, rfl, (by show 8 ≤ sizeLine; decide), fun t ht => ?_⟩
    refine ⟨_, rfl, t, _, rfl, upd_same, rfl, fun i hi => (hv i hi).same (Same.new ht), fun H1 s1 => ?_⟩
    have s2 : Same H H1 := (Same.new ht).trans s1
    have e1 := s1 t _ upd_same
    refine ⟨_, rfl, rfl, _, rfl, ?_⟩
    cases e : firstWrong [w0, w1, w2, w3, w4, w5, w6, w7] with
    | some nm =>
      refine iteT ⟨_, rfl, _, rfl, first_vok e, fun d hd => ?_⟩
      exact ke nm e d _ upd_same (s2.trans (Same.new hd))
    | none =>
      refine iteF ⟨_, rfl, _, rfl, x, C, dx, [], rfl, s2 x _ hx, T.cl, T.nP, (by show 0 < 1000; decide), ?_⟩
      have nt : t ≠ x := fun z => by
        have z1 := s2 x _ hx
        rw [← z, e1] at z1
        cases z1
      exact kq e t _ upd_same (by rw [upd_ne nt]; exact e1) fun b o hb q => by rw [upd_ne hb]; exact s2 b o q
theorem scMa : FnScope ["_law_told", "_law_point", "_law_comma", "_law_rest", "_law_must", "_law_sign", "_law_zeros", "_law_blanks", "_law_exponent"] ["_law_told"] (defScope sMade) := ⟨rfl, rfl, rfl, by decide +kernel, rfl, by decide +kernel, by decide +kernel⟩
theorem ok_made {f fI C CB fB : Addr} {fd fdI : FuncData} (F : Fun K "_law_made" "_law_made" sMade f fd) (T : TRd P K mg C fI CB fB fdI) (GI : FnOk P w K mg base (L2.CX P w) 3 fI fdI ["self", "point", "comma", "rest", "must", "sign", "zeros", "blanks", "exponent"] (spInit C CB)) :
    FnOk P w K mg base (L2.CX P w) 5 f fd ["_law_told"] (spMade K C CB) := by
  refine F.okX scMa (fun vs H Q E h => ?_) (fun cdv A outer s H vs Q E hr h => ?_)
  · obtain ⟨t, ws, rfl, _⟩ := h
    rfl
  · obtain ⟨t, ws, rfl, hs, hl, hv, ke, kq⟩ := h
    refine ⟨_, (pss_cons (ps_asg (pv 0) (PGor (pg_tup rfl (pgs_cons (pg_name (i := 1) scMa.nd rfl (Or.inl rfl)) (pgs_cons (pg_name (i := 2) scMa.nd rfl (Or.inl rfl)) (pgs_cons (pg_name (i := 3) scMa.nd rfl (Or.inl rfl)) (pgs_cons (pg_name (i := 4) scMa.nd rfl (Or.inl rfl)) (pgs_cons (pg_name (i := 5) scMa.nd rfl (Or.inl rfl)) (pgs_cons (pg_name (i := 6) scMa.nd rfl (Or.inl rfl)) (pgs_cons (pg_name (i := 7) scMa.nd rfl (Or.inl rfl)) (pgs_cons (pg_name (i := 8) scMa.nd rfl (Or.inl rfl)) pgs_nil))))))))) (pg_unl rfl (pgs_cons (pg_name (i := 1) scMa.nd rfl (Or.inl rfl)) (pgs_cons (pg_name (i := 2) scMa.nd rfl (Or.inl rfl)) (pgs_cons (pg_name (i := 3) scMa.nd rfl (Or.inl rfl)) (pgs_cons (pg_name (i := 4) scMa.nd rfl (Or.inl rfl)) (pgs_cons (pg_name (i := 5) scMa.nd rfl (Or.inl rfl)) (pgs_cons (pg_name (i := 6) scMa.nd rfl (Or.inl rfl)) (pgs_cons (pg_name (i := 7) scMa.nd rfl (Or.inl rfl)) (pgs_cons (pg_name (i := 8) scMa.nd rfl (Or.inl rfl)) pgs_nil)))))))))))
      (pss_one (ps_ret (pe_make T.mkR GI hr rfl T.gR T.bI .nil (passes_call (takes_of rfl rfl rfl rfl) (fun _ _ _ _ h => h)) (pa_cons (pv 1) (pa_cons (pv 2) (pa_cons (pv 3) (pa_cons (pv 4) (pa_cons (pv 5) (pa_cons (pv 6) (pa_cons (pv 7) (pa_cons (pv 8) pa_nil)))))))))))), ?_⟩
    obtain ⟨w0, w1, w2, w3, w4, w5, w6, w7, rfl⟩ := eight hl
    refine ⟨_, rfl, ?_⟩
    have fin : ∀ (x dx : Addr), H x = none → H dx = none → dx ≠ x → spInit C CB [.ref x, w0, w1, w2, w3, w4, w5, w6, w7] (L2.upd (L2.upd H dx (.own x)) x (.ins C dx [])) (fun v H2 => v = .non ∧ Q (.ref x) H2) E := by
      intro x dx nx ndx nex
      have s0 : Same H (L2.upd (L2.upd H dx (.own x)) x (.ins C dx [])) := fun b o e => by
        rw [upd_ne (ne_of_none e nx), upd_ne (ne_of_none e ndx)]
        exact e
      refine ⟨x, dx, _, rfl, rfl, upd_same, fun i hi => (hv i hi).same s0, fun nm e d H' hd s' => ke nm e d H' hd (s0.trans s'), fun e t H' h1 h2 s' => ⟨rfl, kq e x H' ⟨dx, t, h1, h2⟩ fun b o q => ?_⟩⟩
      exact s' b o (ne_of_none q nx) (s0 b o q)
    rcases hs with hs | hs
    · exact .inl ⟨t, _, rfl, hs, rfl, _, _, rfl, _, _, rfl, _, _, rfl, _, _, rfl, _, _, rfl, _, _, rfl, _, _, rfl, _, _, rfl, rfl,
        _, rfl, _, rfl, _, rfl, _, rfl, _, rfl, _, rfl, _, rfl, _, rfl, fin⟩
    · exact .inr ⟨t, _, rfl, hs, rfl, _, _, rfl, _, _, rfl, _, _, rfl, _, _, rfl, _, _, rfl, _, _, rfl, _, _, rfl, _, _, rfl, rfl,
        _, rfl, _, rfl, _, rfl, _, rfl, _, rfl, _, rfl, _, rfl, _, rfl, fin⟩
end
end Ra

namespace Ra
open PySem L2 RaX
abbrev sChk : Stmt := top 8
abbrev sPartsR : Stmt := top 7
abbrev sEq : Stmt := inClass (top 6) 1
abbrev sProp (i : Nat) : Stmt := inClass (top 6) (2 + i)
/-- an error of the package without fields: what the top has of it -/
structure ErrK (K : PySem.W.Frag) (mg : Str → Option Value) (x : Str) (C : Addr) : Prop where
  g : mg x = some (.ref C)
  k : PySem.W.keepIn K (.ref C) = true
  q : PySem.W.excIn K C [.type "ValueError", .type "Exception", .type "BaseException", .type "object"] "ValueError.__new__" = true
  b : PySem.W.subIn K (.ref C) (.type "BaseException") = some true
  t : PySem.W.typeIn K (.ref C) = some (.type "type")
structure TCk (K : PySem.W.Frag) (mg : Str → Option Value) (C CR : Addr) : Prop where
  isi : mg "isinstance" = none
  gR : mg "Reader" = some (.ref C)
  ic : C8.InsC K C
  nP : NoAttr K C "_parts"
  br : ErrK K mg "BadReader" CR
/-- a value that is no Reader -/
def NoRd (K : PySem.W.Frag) (C : Addr) (H : Hp) (v : V) : Prop := ∃ t, TyX K H v t ∧ PySem.W.kitOne K t (.ref C) = some false
def spChk (K : PySem.W.Frag) (C CR : Addr) : Sp := fun vs H Q E => ∃ v, vs = [v] ∧ (((∃ x ws, v = .ref x ∧ RdAt C H x ws) ∧ Q .non H) ∨ (NoRd K C H v ∧ E (.ref CR) none H))
def spPartsR (K : PySem.W.Frag) (C CR : Addr) : Sp := fun vs H Q E => ∃ v, vs = [v] ∧ ((∃ x ws, v = .ref x ∧ RdAt C H x ws ∧ ∀ t, H t = some (.tup ws) → Q (.ref t) H) ∨ (NoRd K C H v ∧ E (.ref CR) none H))
/-- the own ==: with another Reader, or with what is none -/
def spEqR (K : PySem.W.Frag) (C : Addr) : Sp := fun vs H Q _ => ∃ (a : Addr) (y : V) (p : P8), vs = [.ref a, y] ∧ RdAt C H a p.vs ∧ p.Dom ∧
  ((∃ b q, y = .ref b ∧ RdAt C H b q.vs ∧ q.Dom ∧ Q (.bl (decide (p = q))) H) ∨ (NoRd K C H y ∧ Q (.bl false) H))
/-- a property: the i-th part -/
def spProp (C : Addr) (i : Nat) : Sp := fun vs H Q _ => ∃ (a : Addr) (ws : List V), vs = [.ref a] ∧ RdAt C H a ws ∧ ws.length = 8 ∧ i < 8 ∧ Q (at_ ws i) H
section
variable {P : Program} {w : World} {K : PySem.W.Frag} {mg : Str → Option Value} {base : Heap} {CX : CXT}
theorem isi_rd {C CR : Addr} (T : TCk K mg C CR) {H : Hp} {x : Addr} {ws : List V} (h : RdAt C H x ws) : TyX K H (.ref x) (.ref C) := by
  obtain ⟨dx, t, h1, _⟩ := h
  exact .base (TyOf.ins h1 T.ic.cl T.ic.ha T.ic.hn T.ic.htk T.ic.hm)
theorem scCk : FnScope ["value"] ["value"] (defScope sChk) := ⟨rfl, rfl, rfl, by decide +kernel, rfl, by decide +kernel, by decide +kernel⟩
theorem ok_chk {f C CR : Addr} {fd : FuncData} (F : Fun K "check_reader" "check_reader" sChk f fd) (T : TCk K mg C CR) : FnOk P w K mg base (L2.CX P w) 1 f fd ["value"] (spChk K C CR) := by
  refine F.okX scCk (fun vs H Q E h => ?_) (fun cdv A outer s H vs Q E hr h => ?_)
  · obtain ⟨v, rfl, _⟩ := h
    rfl
  · obtain ⟨v, rfl, h⟩ := h
    refine ⟨_, (pss_one (ps_if (pt_not (pt_val (pe_callB isiK rfl T.isi bt_isinstance (pa_cons (pv 0) (pa_cons (pe_glob (v := .ref C) rfl T.gR rfl) pa_nil))))) (pss_one (ps_raise rfl (takes_of rfl rfl rfl rfl) (pmk_own PySem.F.excBase_ValueError T.br.q T.br.g T.br.k (raises_own T.br.b T.br.t) rfl))) pss_nil)), ?_⟩
    rcases h with ⟨⟨x, ws, rfl, hx⟩, k⟩ | ⟨⟨t, y, z⟩, k⟩
    · exact ⟨_, rfl, _, _, _, _, true, rfl, .own C, isi_rd T hx, T.ic.me, _, rfl, iteF k⟩
    · exact ⟨_, rfl, _, _, _, _, false, rfl, .own C, y, z, _, rfl, iteT k⟩
theorem scPR : FnScope ["reader"] ["reader"] (defScope sPartsR) := ⟨rfl, rfl, rfl, by decide +kernel, rfl, by decide +kernel, by decide +kernel⟩
theorem ok_partsR {f f1 C CR : Addr} {fd fd1 : FuncData} (F : Fun K "parts" "parts" sPartsR f fd) (T : TCk K mg C CR) (GC : FnOk P w K mg base (L2.CX P w) 1 f1 fd1 ["value"] (spChk K C CR)) (gC : GFn K mg "check_reader" f1 fd1 ["value"]) :
    FnOk P w K mg base (L2.CX P w) 2 f fd ["reader"] (spPartsR K C CR) := by
  refine F.okX scPR (fun vs H Q E h => ?_) (fun cdv A outer s H vs Q E hr h => ?_)
  · obtain ⟨v, rfl, _⟩ := h
    rfl
  · obtain ⟨v, rfl, h⟩ := h
    refine ⟨_, (pss_cons (ps_expr (pe_call GC (hr) rfl gC.g gC.k gC.b .nil (passes_call (takes_of rfl rfl rfl rfl) (fun _ _ _ _ h => h)) (pa_cons (pv 0) pa_nil)))
      (pss_one (ps_ret (pe_fld (pv 0) rfl)))), ?_⟩
    rcases h with ⟨x, ws, rfl, hx, k⟩ | ⟨n, k⟩
    · obtain ⟨dx, t, h1, h2⟩ := id hx
      exact ⟨_, rfl, _, rfl, .inl ⟨⟨x, ws, rfl, hx⟩, _, rfl, x, C, dx, _, _, rfl, h1, T.ic.cl, T.nP, rfl, k t h2⟩⟩
    · exact ⟨_, rfl, _, rfl, .inr ⟨n, k⟩⟩
theorem scEq : FnScope ["self", "other"] ["self", "other"] (defScope sEq) := ⟨rfl, rfl, rfl, by decide +kernel, rfl, by decide +kernel, by decide +kernel⟩
theorem ok_eq {f C CR : Addr} {fd : FuncData} (F : Fun K "__eq__" "Reader.__eq__" sEq f fd) (T : TCk K mg C CR) : FnOk P w K mg base CX0 1 f fd ["self", "other"] (spEqR K C) := by
  refine F.ok scEq (fun vs H Q E h => ?_) (fun cdv A outer s H vs Q E hr h => ?_)
  · obtain ⟨a, y, p, rfl, _⟩ := h
    rfl
  · obtain ⟨a, y, p, rfl, ha, hp, h⟩ := h
    refine ⟨_, (pss_one (ps_ret (pe_and (pe_callB isiK rfl T.isi bt_isinstance (pa_cons (pv 1) (pa_cons (pe_glob (v := .ref C) rfl T.gR rfl) pa_nil))) (pe_one (pe_cmpR (op_eqD hr.units) (pe_fld (pv 0) rfl) (pe_fld (pv 1) rfl) (nomark _)))))), ?_⟩
    rcases h with ⟨b, q, rfl, hb, hq, k⟩ | ⟨⟨t, y, z⟩, k⟩
    · obtain ⟨dx, t, h1, h2⟩ := id ha
      obtain ⟨dy, u, h3, h4⟩ := id hb
      refine ⟨_, rfl, _, _, _, _, true, rfl, .own C, isi_rd T hb, T.ic.me, _, rfl, iteT ?_⟩
      refine ⟨_, rfl, a, C, dx, _, _, rfl, h1, T.ic.cl, T.nP, rfl, _, rfl, b, C, dy, _, _, rfl, h3, T.ic.cl, T.nP, rfl, _, _, .tup (SqT.of h2) p.dp, .tup (SqT.of h4) q.dp, p.shaped hp, q.shaped hq, ?_⟩
      rw [P8.eqv]
      exact k
    · exact ⟨_, rfl, _, _, _, _, false, rfl, .own C, y, z, _, rfl, iteF k⟩
theorem ok_prop {f C CR : Addr} {fd : FuncData} {x q : Str} {st : Stmt} {i : Nat} {p1 p2 p3 p4 p5 : Pos} (F : Fun K x q st f fd) (S : FnScope ["self"] ["self"] (defScope st))
    (hb : defBody st = [.Return (some (.Subscript (.Attribute (.Name "self" p1) "_parts" p2) (.Constant (.int (i : Nat)) 0 p3) p4)) p5]) (T : TCk K mg C CR) : FnOk P w K mg base CX0 1 f fd ["self"] (spProp C i) := by
  refine F.ok S (fun vs H Q E h => ?_) (fun cdv A outer s H vs Q E hr h => ?_)
  · obtain ⟨a, ws, rfl, _⟩ := h
    rfl
  · obtain ⟨a, ws, rfl, ⟨dx, t, h1, h2⟩, hl, hi, k⟩ := h
    rw [hb]
    refine ⟨_, pss_one (ps_ret (pe_ix ix_tup (pe_fld (pe_var (i := 0) rfl ((S.par "self" (List.Mem.head _)).elim (fun z => .inl z) (fun z => .inr (.inl z)))) rfl) pe_int (fun _ _ => rfl))), ?_⟩
    exact ⟨_, rfl, a, C, dx, _, _, rfl, h1, T.ic.cl, T.nP, rfl, t, ws, _, _, rfl, rfl, SqT.of h2, atI_at (by omega), k⟩
end
end Ra

namespace Ra
open PySem L2 RaX
abbrev sNear : Stmt := top 16
/-- the parts of another reader, drawn -/
def spNear (K : PySem.W.Frag) : Sp := fun vs H Q _ => ∃ (a t : Addr) (p : P8), vs = [.ref a, .ref t] ∧ RowOk K H a ∧ H t = some (.tup p.vs) ∧ p.Ok ∧
  ∀ (q : P8) (t' : Addr) (H' : Hp), q.Ok → RowOk K H' a → But a H H' → H' t' = some (.tup q.vs) → Q (.ref t') H'
structure TNe (mg : Str → Option Value) : Prop where
  list : mg "list" = none
  tuple : mg "tuple" = none
  range : mg "range" = none
section
variable {P : Program} {w : World} {K : PySem.W.Frag} {mg : Str → Option Value} {base : Heap} {CX : CXT}
theorem scNe : FnScope ["_law_row", "_law_told", "_law_other", "_law_at"] ["_law_row", "_law_told"] (defScope sNear) := ⟨rfl, rfl, rfl, by decide +kernel, rfl, by decide +kernel, by decide +kernel⟩
theorem ok_near {f f1 f2 : Addr} {fd fd1 fd2 : FuncData} (F : Fun K "_law_near" "_law_near" sNear f fd) (T : TNe mg) (G : FnOk P w K mg base CX0 1 f1 fd1 ["_law_row", "_law_many"] (spTaken K)) (g : TkG K mg f1 fd1)
    (GP : FnOk P w K mg base CX0 2 f2 fd2 ["_law_row"] (spParts K)) (gP : GFn K mg "_law_parts" f2 fd2 ["_law_row"]) : FnOk P w K mg base CX0 3 f fd ["_law_row", "_law_told"] (spNear K) := by
  refine F.ok scNe (fun vs H Q E h => ?_) (fun cdv A outer s H vs Q E hr h => ?_)
  · obtain ⟨a, t, p, rfl, _⟩ := h
    rfl
  · obtain ⟨a, t, p, rfl, R, ht, hp, k⟩ := h
    refine ⟨_, (pss_cons (ps_set (i := 2) scNe.nd rfl (Or.inl rfl) (pe_callTy call_list_of rfl T.list bt_list (pa_cons (pe_call GP (hr.mono (by decide)) rfl gP.g gP.k gP.b .nil pass0 (pa_cons (pv 0) pa_nil)) pa_nil)))
      (pss_cons (ps_for PassesOwn.never rfl (pi_range1 rfl T.range (pa_cons pe_int pa_nil)) (pg_name (i := 3) scNe.nd rfl (Or.inl rfl)) (pss_one (ps_if (pt_cmpR op_gt (pe_call G (hr.mono (by decide)) rfl g.g g.k g.b .nil pass0 (pa_cons (pv 0) (pa_cons pe_int pa_nil))) pe_int (nomark _)) (pss_one (ps_asg (pe_ix ix_tup (pv 1) (pv 3) (fun _ _ => rfl)) (pg_sub (pv 2) (pv 3) set_list))) pss_nil)))
      (C8.pss_cut (ps_if (PW.pt (pw_and (pt_cmpR op_ne (pe_ix ix_list (pv 2) pe_int (fun _ _ => rfl)) pe_str (nomark _)) (pw_and1 (pt_cmpR op_eq (pe_ix ix_list (pv 2) pe_int (fun _ _ => rfl)) (pe_ix ix_list (pv 2) pe_int (fun _ _ => rfl)) (nomark _))))) (pss_one (ps_asg pe_str (pg_sub (pv 2) pe_int set_list))) pss_nil)
      (C8.pss_cut (ps_if (PW.pt (pw_and (pt_cmpR op_eq (pe_ix ix_list (pv 2) pe_int (fun _ _ => rfl)) pe_str (nomark _)) (pw_and1 (pt_val (pe_ix ix_list (pv 2) pe_int (fun _ _ => rfl)))))) (pss_one (ps_asg pe_bl (pg_sub (pv 2) pe_int set_list))) pss_nil)
      (pss_one (ps_ret (pe_callTy call_tuple_of rfl T.tuple bt_tuple (pa_cons (pv 2) pa_nil)))))))), ?_⟩
    have nta : t ≠ a := R.tup ht
    refine ⟨_, rfl, a, rfl, R, fun q t' H1 hq R1 B1 ht' => ⟨t', _, rfl, .inr (SqT.of ht'), fun l hl => ?_⟩⟩
    have hl0 : H l = none := R1.free B1 hl
    have nla : l ≠ a := R.ne hl0
    refine ⟨8, rfl, by decide, by decide, for_range (lo := 0) (n := 8) (fun i σ H' => ∃ (q : P8) (v3 : Option V), σ = [some (.ref a), some (.ref t), some (.ref l), v3] ∧ q.Dom ∧ H' l = some (.lst q.vs) ∧ RowOk K H' a ∧ But a H H')
      ⟨q, none, rfl, hq.toDom, upd_same, R1.new hl, But.other hl0 B1⟩ ?_ ?_⟩
    · rintro i σ H' hi ⟨q, v3, rfl, hq, hL, R2, B2⟩
      have ezi : (0 + (i : Int)) = (i : Int) := Int.zero_add _
      refine ⟨_, rfl, a, 3, rfl, by decide, by decide, R2, fun v H2 v0 v1 R3 B3 => ⟨_, _, rfl, rfl, _, rfl, ite2 (fun c => ?_) fun c => ?_⟩⟩
      · have hL3 := B3 l _ nla hL
        refine ⟨_, rfl, _, rfl, t, p.vs, _, at_ p.vs i, rfl, rfl, SqT.of ((B2.trans B3) t _ nta ht), by rw [ezi]; exact atI_at (by rw [P8.len]; exact hi), _, rfl, _, rfl, l, q.vs, _, i, rfl, rfl, hL3, by rw [ezi]; exact ixN_at hi, ?_⟩
        rw [P8.mix_vs q p hi]
        exact ⟨q.mix p i, _, rfl, hq.mix hp.toDom hi, upd_same, R3.beside (Loose.lst hL3) nla, But.other hl0 (B2.trans B3)⟩
      · exact ⟨q, _, rfl, hq, B3 l _ nla hL, R3, B2.trans B3⟩
    · clear hq ht' R1 B1 hl
      rintro σ H2 ⟨q, v3, rfl, hq, hL, R2, B2⟩
      -- no sign twice
      refine ⟨fun σ H3 => ∃ (q : P8) (v3 : Option V), σ = [some (.ref a), some (.ref t), some (.ref l), v3] ∧ q.Dom ∧ (q.cm = "" ∨ q.cm ≠ q.pt) ∧ H3 l = some (.lst q.vs) ∧ RowOk K H3 a ∧ But a H H3, ?_, ?_⟩
      · refine ⟨_, rfl, l, _, _, _, rfl, rfl, SqL.of hL, rfl, rfl, _, rfl, ite2 (fun c => ?_) fun c => ?_⟩
        · refine ⟨_, rfl, l, _, _, _, rfl, rfl, SqL.of hL, rfl, _, rfl, l, _, _, _, rfl, rfl, SqL.of hL, rfl, rfl, _, rfl, ite2 (fun c2 => ?_) fun c2 => ?_⟩
          · refine ⟨_, rfl, l, _, _, 1, rfl, rfl, hL, rfl, ?_⟩
            exact ⟨{ q with cm := "" }, _, rfl, ⟨hq.pt, by simp [cmL], hq.rs, hq.sg⟩, .inl rfl, upd_same, R2.beside (Loose.lst hL) nla, But.other hl0 B2⟩
          · exact ⟨q, _, rfl, hq, .inr fun z => c2 (decide_eq_true (by rw [z])), hL, R2, B2⟩
        · have e : q.cm = "" := by
            have z : decide (V.str q.cm = V.str "") = true := by simpa using c
            exact V.str.inj (of_decide_eq_true z)
          exact ⟨q, _, rfl, hq, .inl e, hL, R2, B2⟩
      · clear hq hL R2 B2 q
        rintro σ H3 ⟨q, v3, rfl, hq, hne, hL, R2, B2⟩
        refine ⟨fun σ H4 => ∃ (q : P8) (v3 : Option V), σ = [some (.ref a), some (.ref t), some (.ref l), v3] ∧ q.Ok ∧ H4 l = some (.lst q.vs) ∧ RowOk K H4 a ∧ But a H H4, ?_, ?_⟩
        · refine ⟨_, rfl, l, _, _, _, rfl, rfl, SqL.of hL, rfl, rfl, _, rfl, ite2 (fun c => ?_) fun c => ?_⟩
          · refine ⟨_, rfl, l, _, _, _, rfl, rfl, SqL.of hL, rfl, q.bl, rfl, ite2 (fun c2 => ?_) fun c2 => ?_⟩
            · refine ⟨_, rfl, l, _, _, 6, rfl, rfl, hL, rfl, ?_⟩
              exact ⟨{ q with bl := false }, _, rfl, ⟨⟨hq.pt, hq.cm, hq.rs, hq.sg⟩, hne, fun z => Bool.noConfusion z.1⟩, upd_same, R2.beside (Loose.lst hL) nla, But.other hl0 B2⟩
            · exact ⟨q, _, rfl, ⟨hq, hne, fun z => c2 z.1⟩, hL, R2, B2⟩
          · exact ⟨q, _, rfl, ⟨hq, hne, fun z => c (decide_eq_true (by rw [z.2]))⟩, hL, R2, B2⟩
        · rintro σ H4 ⟨q, v3, rfl, hq, hL, R3, B3⟩
          exact ⟨_, rfl, l, _, rfl, .inl ⟨SqL.of hL, fun t' ht' => k q t' _ hq (R3.new ht') (B3.trans (But.new ht')) upd_same⟩⟩
end
end Ra

namespace Ra
open PySem L2 RaX
abbrev sRef : Stmt := top 17
/-- which part is refused -/
def spRef (K : PySem.W.Frag) : Sp := fun vs H Q _ => ∃ (t : Addr) (ws : List V), vs = [.ref t] ∧ (SqT K H t ws ∨ SqL K H t ws) ∧ ws.length = 8 ∧ (∀ i, i < 8 → ValOk H (boAt i) (at_ ws i)) ∧
  ∀ H', Same H H' → Q (nameV (firstWrong ws)) H'
section
variable {P : Program} {w : World} {K : PySem.W.Frag} {mg : Str → Option Value} {base : Heap} {CX : CXT}
theorem scRe : FnScope ["_law_told", "_law_found", "e"] ["_law_told"] (defScope sRef) := ⟨rfl, rfl, rfl, by decide +kernel, rfl, by decide +kernel, by decide +kernel⟩
theorem ok_refused {f f1 fI C CB fB : Addr} {fd fd1 fdI : FuncData} (F : Fun K "_law_refused" "_law_refused" sRef f fd) (T : TRd P K mg C fI CB fB fdI) (te : PySem.W.exmOne K (.ref CB) (.ref CB) = some true)
    (G : FnOk P w K mg base (L2.CX P w) 5 f1 fd1 ["_law_told"] (spMade K C CB)) (g : GFn K mg "_law_made" f1 fd1 ["_law_told"]) : FnOk P w K mg base CX0 6 f fd ["_law_told"] (spRef K) := by
  refine F.ok scRe (fun vs H Q E h => ?_) (fun cdv A outer s H vs Q E hr h => ?_)
  · obtain ⟨t, ws, rfl, _⟩ := h
    rfl
  · obtain ⟨t, ws, rfl, hs, hl, hv, k⟩ := h
    refine ⟨_, (pss_cons (ps_set (i := 1) scRe.nd rfl (Or.inl rfl) pe_non)
      (pss_cons (ps_try_as (i := 2) (tb := fun W => tDrop (tCallS (spMade K C CB) (WE W) (tCons (tVar 0) tNil))) (ts := fun a cls d => tAsg (tByBad CB "part" a cls d (tVar 2)) (gName 1)) (Wout := fun _ _ _ _ => False) rfl rfl scRe.nd rfl rfl ⟨rfl, by decide, Or.inl T.bad.gC⟩ takes0
        (fun W pn xe tk _ => pss_one (ps_expr (pe_callS G hr rfl g.g g.k g.b (fun σ => passAt tk σ) (pa_cons (pv 0) pa_nil))))
        (fun a oe cls d pn hz hf => pss_one (ps_set (i := 1) scRe.nd rfl (Or.inl rfl) (pe_byBad T.bad hz hf (pv 2)))))
      (pss_one (ps_ret (pv 1))))), ?_⟩
    refine ⟨_, rfl, t, ws, rfl, hs, hl, hv, fun nm e d H' hd s' => ?_, fun e x H' _ s' => ?_⟩
    · refine ⟨true, te, fun _ a0 _ => ?_, fun q => Bool.noConfusion q⟩
      refine ⟨_, rfl, rfl, rfl, d, _, rfl, hd, _, rfl, ?_⟩
      rw [e] at k
      exact k _ s'
    · rw [e] at k
      exact ⟨_, rfl, k _ s'⟩
end
end Ra

namespace Ra
open PySem L2 RaX
abbrev sLaw : Stmt := top 18
def nmV : List V := [.str "point", .str "comma", .str "rest", .str "must", .str "sign", .str "zeros", .str "blanks", .str "exponent"]
def spLaw (K : PySem.W.Frag) : Sp := fun vs H Q _ => ∃ (sc : Addr) (ns : List Int), vs = [.ref sc] ∧ ScL K H sc (ns.map V.int) ∧ ∀ H', Q (.bl true) H'
/-- a property of Reader -/
structure PrF (P : Program) (w : World) (K : PySem.W.Frag) (mg : Str → Option Value) (base : Heap) (C : Addr) (x : Str) (i : Nat) (p g : Addr) (fd : FuncData) : Prop where
  q : PropOf K C x p g
  G : FnOk P w K mg base CX0 1 g fd ["self"] (spProp C i)
  b : Binds K fd ["self"] []
structure CLw (P : Program) (w : World) (K : PySem.W.Frag) (mg : Str → Option Value) (base : Heap) (C CB CR f1 f2 f3 f4 f5 f6 f7 : Addr) (fd1 fd2 fd3 fd4 fd5 fd6 fd7 : FuncData) : Prop where
  tk : FnOk P w K mg base CX0 1 f1 fd1 ["_law_row", "_law_many"] (spTaken K)
  tkG : TkG K mg f1 fd1
  pa : FnOk P w K mg base CX0 2 f2 fd2 ["_law_row"] (spParts K)
  paG : GFn K mg "_law_parts" f2 fd2 ["_law_row"]
  md : FnOk P w K mg base (L2.CX P w) 5 f3 fd3 ["_law_told"] (spMade K C CB)
  mdG : GFn K mg "_law_made" f3 fd3 ["_law_told"]
  ne : FnOk P w K mg base CX0 3 f4 fd4 ["_law_row", "_law_told"] (spNear K)
  neG : GFn K mg "_law_near" f4 fd4 ["_law_row", "_law_told"]
  re : FnOk P w K mg base CX0 6 f5 fd5 ["_law_told"] (spRef K)
  reG : GFn K mg "_law_refused" f5 fd5 ["_law_told"]
  pr : FnOk P w K mg base (L2.CX P w) 2 f6 fd6 ["reader"] (spPartsR K C CR)
  prG : GFn K mg "parts" f6 fd6 ["reader"]
  eq : FnOk P w K mg base CX0 1 f7 fd7 ["self", "other"] (spEqR K C)
  eqS : PySem.W.findIn K (.ref C) "__eq__" = some (some (.ref f7))
  eqF : PySem.W.isFn K (.ref f7) = true
  eqB : Binds K fd7 ["self", "other"] []
structure TLw (K : PySem.W.Frag) (mg : Str → Option Value) (C CR : Addr) : Prop extends TCk K mg C CR where
  len : mg "len" = none
  list : mg "list" = none
  range : mg "range" = none
  nfT : PySem.W.notFirst K C (.type "tuple") = true
  nfR : PySem.W.notFirst K C (.ref C) = true
  noT : PySem.W.kitOne K (.type "tuple") (.ref C) = some false
section
variable {P : Program} {w : World} {K : PySem.W.Frag} {mg : Str → Option Value} {base : Heap} {CX : CXT}
theorem scLw : FnScope ["_law_script", "_law_row", "_law_names", "_law_turn", "_law_told", "_law_reader", "_law_other", "_law_odd", "_law_at", "_law_spoilt", "_law_place"] ["_law_script"] (defScope sLaw) := ⟨rfl, rfl, rfl, by decide +kernel, rfl, by decide +kernel, by decide +kernel⟩
theorem ok_law {f C' CB CR f1 f2 f3 f4 f5 f6 f7 : Addr} {fd fd1 fd2 fd3 fd4 fd5 fd6 fd7 : FuncData} (F : Fun K "law" "law" sLaw f fd) (T : TLw K mg C' CR) (C : CLw P w K mg base C' CB CR f1 f2 f3 f4 f5 f6 f7 fd1 fd2 fd3 fd4 fd5 fd6 fd7)
    {p0 p1 p2 p3 p4 p5 p6 p7 g0 g1 g2 g3 g4 g5 g6 g7 : Addr} {e0 e1 e2 e3 e4 e5 e6 e7 : FuncData} (P0 : PrF P w K mg base C' "point" 0 p0 g0 e0) (P1 : PrF P w K mg base C' "comma" 1 p1 g1 e1) (P2 : PrF P w K mg base C' "rest" 2 p2 g2 e2) (P3 : PrF P w K mg base C' "must" 3 p3 g3 e3)
    (P4 : PrF P w K mg base C' "sign" 4 p4 g4 e4) (P5 : PrF P w K mg base C' "zeros" 5 p5 g5 e5) (P6 : PrF P w K mg base C' "blanks" 6 p6 g6 e6) (P7 : PrF P w K mg base C' "exponent" 7 p7 g7 e7) : FnOk P w K mg base CX0 9 f fd ["_law_script"] (spLaw K) := by
  obtain ⟨q0, G0, b0⟩ := P0
  obtain ⟨q1, G1, b1⟩ := P1
  obtain ⟨q2, G2, b2⟩ := P2
  obtain ⟨q3, G3, b3⟩ := P3
  obtain ⟨q4, G4, b4⟩ := P4
  obtain ⟨q5, G5, b5⟩ := P5
  obtain ⟨q6, G6, b6⟩ := P6
  obtain ⟨q7, G7, b7⟩ := P7
  refine F.ok scLw (fun vs H Q E h => ?_) (fun cdv A outer s H vs Q E hr h => ?_)
  · obtain ⟨sc, ns, rfl, _⟩ := h
    rfl
  · obtain ⟨sc, ns, rfl, hsc, k⟩ := h
    refine ⟨_, (pss_cons (ps_set (i := 1) scLw.nd rfl (Or.inl rfl) (pe_lst (pa_cons (pv 0) (pa_cons pe_int (pa_cons pe_int (pa_cons pe_int pa_nil))))))
      (pss_cons (ps_set (i := 2) scLw.nd rfl (Or.inl rfl) (pe_lst (pa_cons pe_str (pa_cons pe_str (pa_cons pe_str (pa_cons pe_str (pa_cons pe_str (pa_cons pe_str (pa_cons pe_str (pa_cons pe_str pa_nil))))))))))
      (pss_cons (ps_for PassesOwn.never rfl (pi_range1 rfl T.range (pa_cons pe_int pa_nil)) (pg_name (i := 3) scLw.nd rfl (Or.inl rfl)) (pss_cons (ps_set (i := 4) scLw.nd rfl (Or.inl rfl) (pe_call C.pa (hr.mono (by decide)) rfl C.paG.g C.paG.k C.paG.b .nil pass0 (pa_cons (pv 1) pa_nil)))
      (pss_cons (ps_par (i := 5) (j := 6) rfl scLw.nd rfl rfl (by decide) rfl rfl (pa_cons (pe_call C.md (hr.mono (by decide)) rfl C.mdG.g C.mdG.k C.mdG.b .nil passL (pa_cons (pv 4) pa_nil)) (pa_cons (pe_call C.ne (hr.mono (by decide)) rfl C.neG.g C.neG.k C.neG.b .nil pass0 (pa_cons (pv 1) (pa_cons (pv 4) pa_nil))) pa_nil)) rfl)
      (pss_cons (ps_if (PW.pt (pw_or (pt_cmpR (op_neD hr.units) (pe_call C.pr (hr.mono (by decide)) rfl C.prG.g C.prG.k C.prG.b .nil passL (pa_cons (pv 5) pa_nil)) (pv 4) (nomark _)) (pw_or (pt_cmpR op_ne (pe_cmpR (op_eqO C.eq C.eqS C.eqF C.eqB (E := E0) pass0 (hr.mono (by decide))) (pv 5) (pe_call C.md (hr.mono (by decide)) rfl C.mdG.g C.mdG.k C.mdG.b .nil passL (pa_cons (pv 6) pa_nil)) (nomark _)) (pe_cmpR (op_eqD hr.units) (pv 4) (pv 6) (nomark _)) (nomark _)) (pw_or1 (pt_cmpR (op_eqO C.eq C.eqS C.eqF C.eqB (E := E0) pass0 (hr.mono (by decide))) (pv 5) (pv 4) (nomark _)))))) (pss_one (ps_ret pe_bl)) pss_nil)
      (pss_cons (ps_if (pt_cmpR (op_neD hr.units) (pe_tup (pa_cons (pe_prop (pv 5) T.ic.cl q0 (G0) (hr.mono (by decide)) b0 .nil pass0 rfl) (pa_cons (pe_prop (pv 5) T.ic.cl q1 (G1) (hr.mono (by decide)) b1 .nil pass0 rfl) (pa_cons (pe_prop (pv 5) T.ic.cl q2 (G2) (hr.mono (by decide)) b2 .nil pass0 rfl) (pa_cons (pe_prop (pv 5) T.ic.cl q3 (G3) (hr.mono (by decide)) b3 .nil pass0 rfl) pa_nil))))) (pe_slice sl_tupA (pv 4) po_none (po_some pe_int)) (nomark _)) (pss_one (ps_ret pe_bl)) pss_nil)
      (C8.pss_cut (ps_if (pt_cmpR (op_neD hr.units) (pe_tup (pa_cons (pe_prop (pv 5) T.ic.cl q4 (G4) (hr.mono (by decide)) b4 .nil pass0 rfl) (pa_cons (pe_prop (pv 5) T.ic.cl q5 (G5) (hr.mono (by decide)) b5 .nil pass0 rfl) (pa_cons (pe_prop (pv 5) T.ic.cl q6 (G6) (hr.mono (by decide)) b6 .nil pass0 rfl) (pa_cons (pe_prop (pv 5) T.ic.cl q7 (G7) (hr.mono (by decide)) b7 .nil pass0 rfl) pa_nil))))) (pe_slice sl_tupA (pv 4) (po_some pe_int) po_none) (nomark _)) (pss_one (ps_ret pe_bl)) pss_nil)
      (pss_cons (ps_set (i := 7) scLw.nd rfl (Or.inl rfl) (pe_lst (pa_cons (pe_lst (pa_cons pe_non (pa_cons pe_str (pa_cons pe_str (pa_cons pe_int (pa_cons (pe_tup (pa_cons pe_str pa_nil)) pa_nil)))))) (pa_cons (pe_lst (pa_cons pe_non (pa_cons pe_str (pa_cons pe_str (pa_cons pe_int (pa_cons pe_bl pa_nil)))))) (pa_cons (pe_lst (pa_cons pe_non (pa_cons pe_int (pa_cons pe_int (pa_cons pe_bl (pa_cons pe_str (pa_cons pe_int pa_nil))))))) pa_nil)))))
      (pss_cons (ps_set (i := 7) scLw.nd rfl (Or.inl rfl) (pe_op op_cat (pv 7) (pe_lst (pa_cons (pe_lst (pa_cons pe_non (pa_cons pe_int (pa_cons pe_int (pa_cons pe_str pa_nil))))) pa_nil))))
      (C8.pss_cut (ps_set (i := 7) scLw.nd rfl (Or.inl rfl) (pe_op op_cat (pv 7) (pe_lst (pa_cons (pe_lst (pa_cons pe_non (pa_cons pe_str (pa_cons pe_str (pa_cons pe_int (pa_cons (pe_tup (pa_cons pe_str pa_nil)) pa_nil)))))) (pa_cons (pe_lst (pa_cons pe_non (pa_cons pe_int (pa_cons pe_int (pa_cons pe_str pa_nil))))) (pa_cons (pe_lst (pa_cons pe_non (pa_cons pe_int (pa_cons pe_int (pa_cons (pe_tup pa_nil) pa_nil))))) (pa_cons (pe_lst (pa_cons pe_non (pa_cons pe_int (pa_cons pe_int (pa_cons pe_dnewK pa_nil))))) pa_nil)))))))
      (C8.pss_cut (ps_par (i := 8) (j := 9) rfl scLw.nd rfl rfl (by decide) rfl rfl (pa_cons (pe_call C.tk (hr.mono (by decide)) rfl C.tkG.g C.tkG.k C.tkG.b .nil pass0 (pa_cons (pv 1) (pa_cons pe_int pa_nil))) (pa_cons (pe_callTy call_list_of rfl T.list bt_list (pa_cons (pv 4) pa_nil)) pa_nil)) rfl)
      (C8.pss_cut (ps_for PassesOwn.never rfl (pi_range2 rfl T.range (pa_cons (pv 8) (pa_cons pe_int pa_nil))) (pg_name (i := 10) scLw.nd rfl (Or.inl rfl)) (pss_one (ps_if (PW.pt (pw_or (pt_cmpR op_eq (pv 10) (pv 8) (nomark _)) (pw_or1 (pt_cmpR op_eq (pe_call C.tk (hr.mono (by decide)) rfl C.tkG.g C.tkG.k C.tkG.b .nil pass0 (pa_cons (pv 1) (pa_cons pe_int pa_nil))) pe_int (nomark _))))) (pss_one (ps_asg (pe_ix ix_list (pe_ix ix_list (pv 7) (pv 10) (fun _ _ => rfl)) (pe_call C.tk (hr.mono (by decide)) rfl C.tkG.g C.tkG.k C.tkG.b .nil pass0 (pa_cons (pv 1) (pa_cons (pe_callB call_len_seq rfl T.len bt_len (pa_cons (pe_ix ix_list (pv 7) (pv 10) (fun _ _ => rfl)) pa_nil)) pa_nil))) (fun _ _ => rfl)) (pg_sub (pv 9) (pv 10) set_list))) pss_nil)))
      (pss_cons (ps_if (pt_cmpR op_ne (pe_call C.re (hr.mono (by decide)) rfl C.reG.g C.reG.k C.reG.b .nil pass0 (pa_cons (pv 9) pa_nil)) (pe_ix ix_list (pv 2) (pv 8) (fun _ _ => rfl)) (nomark _)) (pss_one (ps_ret pe_bl)) pss_nil)
      (C8.pss_cut (ps_if (PW.pt (pw_and (pt_cmpR op_ne (pe_ix ix_tup (pv 4) pe_int (fun _ _ => rfl)) pe_str (nomark _)) (pw_and1 (pt_cmpR op_ne (pe_call C.re (hr.mono (by decide)) rfl C.reG.g C.reG.k C.reG.b .nil pass0 (pa_cons (pe_op op_catT (pe_tup (pa_cons (pe_ix ix_tup (pv 4) pe_int (fun _ _ => rfl)) (pa_cons (pe_ix ix_tup (pv 4) pe_int (fun _ _ => rfl)) pa_nil))) (pe_slice sl_tupA (pv 4) (po_some pe_int) po_none)) pa_nil)) pe_str (nomark _))))) (pss_one (ps_ret pe_bl)) pss_nil)
      (pss_one (ps_if (pt_cmpR op_ne (pe_call C.re (hr.mono (by decide)) rfl C.reG.g C.reG.k C.reG.b .nil pass0 (pa_cons (pe_op op_catT (pe_op op_catT (pe_tup (pa_cons (pe_ix ix_tup (pv 4) pe_int (fun _ _ => rfl)) (pa_cons pe_str pa_nil))) (pe_slice sl_tupA (pv 4) (po_some pe_int) (po_some pe_int))) (pe_tup (pa_cons pe_bl (pa_cons pe_non pa_nil)))) pa_nil)) pe_str (nomark _)) (pss_one (ps_ret pe_bl)) pss_nil)))))))))))))))
      (pss_one (ps_ret pe_bl))))), ?_⟩
    refine ⟨_, rfl, (by show 4 ≤ sizeLine; decide), fun a ha => ⟨(by show 8 ≤ sizeLine; decide), fun n hn => ?_⟩⟩
    have nna : n ≠ a := fun z => by
      rw [z, upd_same] at hn
      cases hn
    have R0 : RowOk K (L2.upd (L2.upd H a (.lst (rowV sc 0 101 0))) n (.lst nmV)) a := ⟨sc, ns, 0, 101, 0, by rw [upd_ne (Ne.symm nna)]; exact upd_same, (hsc.same (Same.new ha)).same (Same.new hn), Int.le_refl 0⟩
    refine ⟨6, rfl, by decide, by decide, for_range (lo := 0) (n := 6) (fun i σ H' => (∃ v3 v4 v5 v6 v7 v8 v9 v10, σ = [some (.ref sc), some (.ref a), some (.ref n), v3, v4, v5, v6, v7, v8, v9, v10]) ∧ RowOk K H' a ∧ H' n = some (.lst nmV))
      ⟨⟨_, _, _, _, _, _, _, _, rfl⟩, R0, upd_same⟩ ?_ (fun σ H' _ => k _)⟩
    rintro i σ H0 hi ⟨⟨v3, v4, v5, v6, v7, v8, v9, v10, rfl⟩, R, hN⟩
    clear R0 hn hsc ha
    -- the parts, a reader, other parts
    refine ⟨_, rfl, a, rfl, R, fun p t H1 hp R1 B1 ht => ?_⟩
    refine ⟨_, rfl, t, p.vs, rfl, .inl (SqT.of ht), rfl, fun i hi => p.valOk hi, fun nm e _ _ _ _ => (by rw [hp.first] at e; cases e), fun _ x H2 hx s2 => ?_⟩
    refine ⟨_, rfl, _, rfl, a, t, p, rfl, R1.same s2, s2 _ _ ht, hp, fun q t2 H3 hq R3 B3 ht2 => ⟨_, _, rfl, ?_⟩⟩
    have R2 := R1.same s2
    have hx3 := hx.but R2 B3
    have ht3 := B3 t _ (R1.tup ht) (s2 _ _ ht)
    have hN3 := B3 n _ nna (s2 _ _ (B1 n _ nna hN))
    clear hx ht hN B3 R2 s2 R1 B1 R
    -- parts(reader) != told
    refine ⟨_, rfl, _, rfl, .inl ⟨x, p.vs, rfl, hx3, fun t' ht' => ⟨_, rfl, _, _, .tup (SqT.of ht') p.dp, .tup (SqT.of ht3) p.dp, p.shaped hp.toDom, p.shaped hp.toDom, _, rfl, ?_⟩⟩⟩
    rw [eqv_self (p.shaped hp.toDom)]
    refine iteF ?_
    have noT : NoRd K C' H3 (.ref t) := ⟨_, .base (.tup ht3), T.noT⟩
    -- (reader == made(other)) != (told == other)
    obtain ⟨dx, tx, hx1, hx2⟩ := id hx3
    refine ⟨_, rfl, _, rfl, t2, q.vs, rfl, .inl (SqT.of ht2), rfl, fun i hi => q.valOk hi, fun nm e _ _ _ _ => (by rw [hq.first] at e; cases e), fun _ y H4 hy s4 => ?_⟩
    refine ⟨x, dx, _, .ref C', rfl, s4 _ _ hx1, isi_rd T.toTCk hy, T.nfR, x, _, p, rfl, hx3.same s4, hp.toDom, .inl ⟨y, q, rfl, hy, hq.toDom, _, rfl, ?_⟩⟩
    refine ⟨_, rfl, _, rfl, _, _, .tup (SqT.of (s4 _ _ ht3)) p.dp, .tup (SqT.of (s4 _ _ ht2)) q.dp, p.shaped hp.toDom, q.shaped hq.toDom, rfl, _, rfl, ?_⟩
    rw [P8.eqv, decide_eq_true (p := V.bl (decide (p = q)) = V.bl (decide (p = q))) rfl]
    refine iteF ?_
    -- reader == told
    refine ⟨_, rfl, _, rfl, x, dx, _, .type "tuple", rfl, s4 _ _ hx1, .base (.tup (s4 _ _ ht3)), T.nfT, x, .ref t, p, rfl, hx3.same s4, hp.toDom, .inr ⟨⟨_, .base (.tup (s4 _ _ ht3)), T.noT⟩, _, rfl, _, rfl, iteF ?_⟩⟩
    have R4 := R3.same s4
    have hx4 := hx3.same s4
    have hN4 := s4 _ _ hN3
    have ht4 := s4 _ _ ht3
    have hx5 := s4 _ _ hx1
    clear noT hx1 hx2 hx3 R3 hN3 ht3 s4 hy ht2 ht'
    -- the first four properties
    refine ⟨_, rfl, x, dx, _, rfl, hx5, x, p.vs, rfl, hx4, rfl, by decide, _, rfl, x, dx, _, rfl, hx5, x, p.vs, rfl, hx4, rfl, by decide, _, rfl, x, dx, _, rfl, hx5, x, p.vs, rfl, hx4, rfl, by decide, _, rfl, x, dx, _, rfl, hx5, x, p.vs, rfl, hx4, rfl, by decide, ?_⟩
    refine ⟨(by show 4 ≤ sizeLine; decide), fun t5 ht5 => ⟨_, rfl, 4, rfl, t, p.vs, rfl, SqT.of (Same.new ht5 _ _ ht4), fun z => absurd z (wholeA rfl), fun _ t6 ht6 => ?_⟩⟩
    refine ⟨_, _, .tup (SqT.of (Same.new ht6 _ _ upd_same)) p.dpA, .tup (SqT.of (xs := p.vsA) upd_same) p.dpA, p.shapedA hp.toDom, p.shapedA hp.toDom, _, rfl, ?_⟩
    rw [eqv_self (p.shapedA hp.toDom)]
    refine iteF ?_
    have s6 := (Same.new (o := .tup p.vsA) ht5).trans (Same.new (o := .tup p.vsA) ht6)
    -- the last four
    refine ⟨fun σ H' => (∃ v5 v6 v7 v8 v9 v10, σ = [some (.ref sc), some (.ref a), some (.ref n), some (.int (0 + (i : Int))), some (.ref t), v5, v6, v7, v8, v9, v10]) ∧ RowOk K H' a ∧ H' n = some (.lst nmV) ∧ H' t = some (.tup p.vs), ?_, ?_⟩
    · have hx6 := s6 _ _ hx5
      have hr6 := hx4.same s6
      refine ⟨_, rfl, x, dx, _, rfl, hx6, x, p.vs, rfl, hr6, rfl, by decide, _, rfl, x, dx, _, rfl, hx6, x, p.vs, rfl, hr6, rfl, by decide, _, rfl, x, dx, _, rfl, hx6, x, p.vs, rfl, hr6, rfl, by decide, _, rfl, x, dx, _, rfl, hx6, x, p.vs, rfl, hr6, rfl, by decide, ?_⟩
      refine ⟨(by show 4 ≤ sizeLine; decide), fun t7 ht7 => ⟨_, rfl, 4, rfl, t, p.vs, rfl, SqT.of (Same.new ht7 _ _ (s6 _ _ ht4)), fun z => absurd z (wholeB rfl), fun _ t8 ht8 => ?_⟩⟩
      refine ⟨_, _, .tup (SqT.of (Same.new ht8 _ _ upd_same)) p.dpB, .tup (SqT.of (xs := p.vsB) upd_same) p.dpB, p.shapedB hp.toDom, p.shapedB hp.toDom, _, rfl, ?_⟩
      rw [eqv_self (p.shapedB hp.toDom)]
      have s8 := s6.trans ((Same.new (o := .tup p.vsB) ht7).trans (Same.new (o := .tup p.vsB) ht8))
      exact iteF ⟨⟨_, _, _, _, _, _, rfl⟩, R4.same s8, s8 _ _ hN4, s8 _ _ ht4⟩
    clear s6 ht5 ht6 R4 hN4 ht4 hx4 hx5 hq
    rintro σ G0 ⟨⟨v5, v6, v7, v8, v9, v10, rfl⟩, R, hN, hT⟩
    -- what spoils the parts
    refine ⟨(by show 1 ≤ sizeLine; decide), fun q1 hq1 => ⟨(by show 5 ≤ sizeLine; decide), fun l0 hl0 => ⟨(by show 5 ≤ sizeLine; decide), fun l1 hl1 => ⟨(by show 6 ≤ sizeLine; decide), fun l2 hl2 => ⟨(by show 3 ≤ sizeLine; decide), fun o1 ho1 => ?_⟩⟩⟩⟩⟩
    have e_q1 := Same.new (o := HO.tup [V.str "."]) hq1
    have e_l0 := Same.new (o := HO.lst [V.non, V.str ";", V.str "..", V.int 0, V.ref q1]) hl0
    have e_l1 := Same.new (o := HO.lst [V.non, V.str ";", V.str "''", V.int 0, V.bl true]) hl1
    have e_l2 := Same.new (o := HO.lst [V.non, V.int 1, V.int 4, V.bl true, V.str "3", V.int 0]) hl2
    have e_o1 := Same.new (o := HO.lst [V.ref l0, V.ref l1, V.ref l2]) ho1
    refine ⟨_, rfl, (by show 4 ≤ sizeLine; decide), fun l3 hl3 => ⟨(by show 1 ≤ sizeLine; decide), fun o2 ho2 => ?_⟩⟩
    have e_l3 := Same.new (o := HO.lst [V.non, V.int 0, V.int 1, V.str "True"]) hl3
    have e_o2 := Same.new (o := HO.lst [V.ref l3]) ho2
    refine ⟨o1, o2, _, _, rfl, rfl, e_o2 _ _ (e_l3 _ _ upd_same), upd_same, (by show 4 ≤ sizeLine; decide), fun o3 ho3 => ?_⟩
    have e_o3 := Same.new (o := HO.lst ([V.ref l0, V.ref l1, V.ref l2] ++ [V.ref l3])) ho3
    refine ⟨fun σ H' => ∃ o5, (∃ v5 v6 v8 v9 v10, σ = [some (.ref sc), some (.ref a), some (.ref n), some (.int (0 + (i : Int))), some (.ref t), v5, v6, some (.ref o5), v8, v9, v10]) ∧ RowOk K H' a ∧ H' n = some (.lst nmV) ∧ H' t = some (.tup p.vs) ∧ o5 ≠ a ∧
      ∃ ls : List Addr, ls.length = 8 ∧ H' o5 = some (.lst (ls.map V.ref)) ∧ ∀ i l, ls[i]? = some l → OddL H' i l ∧ l ≠ a, ?_, ?_⟩
    · skip
      refine ⟨_, rfl, (by show 1 ≤ sizeLine; decide), fun q2 hq2 => ⟨(by show 5 ≤ sizeLine; decide), fun l4 hl4 => ⟨(by show 4 ≤ sizeLine; decide), fun l5 hl5 => ⟨(by show 0 ≤ sizeLine; decide), fun q3 hq3 => ⟨(by show 4 ≤ sizeLine; decide), fun l6 hl6 => ?_⟩⟩⟩⟩⟩
      have e_q2 := Same.new (o := HO.tup [V.str "ahead"]) hq2
      have e_l4 := Same.new (o := HO.lst [V.non, V.str "", V.str "Ahead", V.int 0, V.ref q2]) hl4
      have e_l5 := Same.new (o := HO.lst [V.non, V.int 0, V.int 1, V.str "False"]) hl5
      have e_q3 := Same.new (o := HO.tup []) hq3
      have e_l6 := Same.new (o := HO.lst [V.non, V.int 0, V.int 1, V.ref q3]) hl6
      intro d7 hd7
      have e_d7 := Same.new (o := HO.dK []) hd7
      refine ⟨(by show 4 ≤ sizeLine; decide), fun l7 hl7 => ⟨(by show 4 ≤ sizeLine; decide), fun o4 ho4 => ?_⟩⟩
      have e_l7 := Same.new (o := HO.lst [V.non, V.int 0, V.int 1, V.ref d7]) hl7
      have e_o4 := Same.new (o := HO.lst [V.ref l4, V.ref l5, V.ref l6, V.ref l7]) ho4
      have k_o3 := (((((((e_q2).trans e_l4).trans e_l5).trans e_q3).trans e_l6).trans e_d7).trans e_l7).trans e_o4
      refine ⟨o3, o4, _, _, rfl, rfl, k_o3 _ _ upd_same, upd_same, (by show 8 ≤ sizeLine; decide), fun o5 ho5 => ?_⟩
      have e_o5 := Same.new (o := HO.lst (([V.ref l0, V.ref l1, V.ref l2] ++ [V.ref l3]) ++ [V.ref l4, V.ref l5, V.ref l6, V.ref l7])) ho5
      have k_all := ((((((((((((((((e_q1).trans e_l0).trans e_l1).trans e_l2).trans e_o1).trans e_l3).trans e_o2).trans e_o3).trans e_q2).trans e_l4).trans e_l5).trans e_q3).trans e_l6).trans e_d7).trans e_l7).trans e_o4).trans e_o5
      have a_l0 : OddL _ 0 l0 := (show OddL (L2.upd _ l0 (HO.lst [V.non, V.str ";", V.str "..", V.int 0, V.ref q1])) 0 l0 from ⟨_, upd_same, by simp, by simp, odd0 (e_l0 _ _ upd_same)⟩).same (((((((((((((((e_l1).trans e_l2).trans e_o1).trans e_l3).trans e_o2).trans e_o3).trans e_q2).trans e_l4).trans e_l5).trans e_q3).trans e_l6).trans e_d7).trans e_l7).trans e_o4).trans e_o5)
      have n_l0 : l0 ≠ a := (R.same (e_q1)).ne hl0
      have a_l1 : OddL _ 1 l1 := (show OddL (L2.upd _ l1 (HO.lst [V.non, V.str ";", V.str "''", V.int 0, V.bl true])) 1 l1 from ⟨_, upd_same, by simp, by simp, odd1⟩).same ((((((((((((((e_l2).trans e_o1).trans e_l3).trans e_o2).trans e_o3).trans e_q2).trans e_l4).trans e_l5).trans e_q3).trans e_l6).trans e_d7).trans e_l7).trans e_o4).trans e_o5)
      have n_l1 : l1 ≠ a := (R.same ((e_q1).trans e_l0)).ne hl1
      have a_l2 : OddL _ 2 l2 := (show OddL (L2.upd _ l2 (HO.lst [V.non, V.int 1, V.int 4, V.bl true, V.str "3", V.int 0])) 2 l2 from ⟨_, upd_same, by simp, by simp, odd2⟩).same (((((((((((((e_o1).trans e_l3).trans e_o2).trans e_o3).trans e_q2).trans e_l4).trans e_l5).trans e_q3).trans e_l6).trans e_d7).trans e_l7).trans e_o4).trans e_o5)
      have n_l2 : l2 ≠ a := (R.same (((e_q1).trans e_l0).trans e_l1)).ne hl2
      have a_l3 : OddL _ 3 l3 := (show OddL (L2.upd _ l3 (HO.lst [V.non, V.int 0, V.int 1, V.str "True"])) 3 l3 from ⟨_, upd_same, by simp, by simp, odd3⟩).same (((((((((((e_o2).trans e_o3).trans e_q2).trans e_l4).trans e_l5).trans e_q3).trans e_l6).trans e_d7).trans e_l7).trans e_o4).trans e_o5)
      have n_l3 : l3 ≠ a := (R.same (((((e_q1).trans e_l0).trans e_l1).trans e_l2).trans e_o1)).ne hl3
      have a_l4 : OddL _ 4 l4 := (show OddL (L2.upd _ l4 (HO.lst [V.non, V.str "", V.str "Ahead", V.int 0, V.ref q2])) 4 l4 from ⟨_, upd_same, by simp, by simp, odd4 (e_l4 _ _ upd_same)⟩).same (((((((e_l5).trans e_q3).trans e_l6).trans e_d7).trans e_l7).trans e_o4).trans e_o5)
      have n_l4 : l4 ≠ a := (R.same (((((((((e_q1).trans e_l0).trans e_l1).trans e_l2).trans e_o1).trans e_l3).trans e_o2).trans e_o3).trans e_q2)).ne hl4
      have a_l5 : OddL _ 5 l5 := (show OddL (L2.upd _ l5 (HO.lst [V.non, V.int 0, V.int 1, V.str "False"])) 5 l5 from ⟨_, upd_same, by simp, by simp, odd5⟩).same ((((((e_q3).trans e_l6).trans e_d7).trans e_l7).trans e_o4).trans e_o5)
      have n_l5 : l5 ≠ a := (R.same ((((((((((e_q1).trans e_l0).trans e_l1).trans e_l2).trans e_o1).trans e_l3).trans e_o2).trans e_o3).trans e_q2).trans e_l4)).ne hl5
      have a_l6 : OddL _ 6 l6 := (show OddL (L2.upd _ l6 (HO.lst [V.non, V.int 0, V.int 1, V.ref q3])) 6 l6 from ⟨_, upd_same, by simp, by simp, odd6 (e_l6 _ _ upd_same)⟩).same ((((e_d7).trans e_l7).trans e_o4).trans e_o5)
      have n_l6 : l6 ≠ a := (R.same ((((((((((((e_q1).trans e_l0).trans e_l1).trans e_l2).trans e_o1).trans e_l3).trans e_o2).trans e_o3).trans e_q2).trans e_l4).trans e_l5).trans e_q3)).ne hl6
      have a_l7 : OddL _ 7 l7 := (show OddL (L2.upd _ l7 (HO.lst [V.non, V.int 0, V.int 1, V.ref d7])) 7 l7 from ⟨_, upd_same, by simp, by simp, odd7 (e_l7 _ _ upd_same)⟩).same ((e_o4).trans e_o5)
      have n_l7 : l7 ≠ a := (R.same ((((((((((((((e_q1).trans e_l0).trans e_l1).trans e_l2).trans e_o1).trans e_l3).trans e_o2).trans e_o3).trans e_q2).trans e_l4).trans e_l5).trans e_q3).trans e_l6).trans e_d7)).ne hl7
      have n_o5 : o5 ≠ a := (R.same ((((((((((((((((e_q1).trans e_l0).trans e_l1).trans e_l2).trans e_o1).trans e_l3).trans e_o2).trans e_o3).trans e_q2).trans e_l4).trans e_l5).trans e_q3).trans e_l6).trans e_d7).trans e_l7).trans e_o4)).ne ho5
      refine ⟨o5, ⟨_, _, _, _, _, rfl⟩, R.same k_all, k_all _ _ hN, k_all _ _ hT, n_o5, [l0, l1, l2, l3, l4, l5, l6, l7], rfl, upd_same, ?_⟩
      intro j l hj
      have hj8 : j < 8 := (List.getElem?_eq_some_iff.mp hj).1
      rcases lt8 hj8 with rfl | rfl | rfl | rfl | rfl | rfl | rfl | rfl
      · cases Option.some.inj hj; exact ⟨a_l0, n_l0⟩
      · cases Option.some.inj hj; exact ⟨a_l1, n_l1⟩
      · cases Option.some.inj hj; exact ⟨a_l2, n_l2⟩
      · cases Option.some.inj hj; exact ⟨a_l3, n_l3⟩
      · cases Option.some.inj hj; exact ⟨a_l4, n_l4⟩
      · cases Option.some.inj hj; exact ⟨a_l5, n_l5⟩
      · cases Option.some.inj hj; exact ⟨a_l6, n_l6⟩
      · cases Option.some.inj hj; exact ⟨a_l7, n_l7⟩
    clear hN hT R
    clear e_q1 e_l0 e_l1 e_l2 e_o1 e_l3 e_o2 e_o3 hq1 hl0 hl1 hl2 ho1 hl3 ho2 ho3
    rintro σ G1 ⟨o, ⟨v5, v6, v8, v9, v10, rfl⟩, R, hN, hT, noa, ls, hls, hO, hLs⟩
    -- the place, the parts to be spoilt
    refine ⟨fun σ H' => ∃ (at8 : Nat) (l : Addr), at8 < 8 ∧ (∃ v5 v6 v10, σ = [some (.ref sc), some (.ref a), some (.ref n), some (.int (0 + (i : Int))), some (.ref t), v5, v6, some (.ref o), some (.int (at8 : Int)), some (.ref l), v10]) ∧ RowOk K H' a ∧ H' n = some (.lst nmV) ∧ H' t = some (.tup p.vs) ∧
      H' o = some (.lst (ls.map V.ref)) ∧ (∀ i l', ls[i]? = some l' → OddL H' i l' ∧ l' ≠ a ∧ l' ≠ l) ∧ H' l = some (.lst p.vs) ∧ l ≠ a ∧ l ≠ n ∧ l ≠ o, ?_, ?_⟩
    · refine ⟨_, rfl, a, 8, rfl, by decide, by decide, R, fun v G2 v0 v1 R2 B2 => ?_⟩
      refine ⟨_, rfl, t, p.vs, rfl, .inr (SqT.of (B2 t _ (R.tup hT) hT)), fun l hl => ⟨_, _, rfl, ?_⟩⟩
      obtain ⟨at8, rfl⟩ : ∃ at8 : Nat, v = (at8 : Int) := ⟨v.toNat, by omega⟩
      have hN2 := B2 n _ nna hN
      have hO2 := B2 o _ noa hO
      refine ⟨at8, l, by omega, ⟨_, _, _, rfl⟩, R2.new hl, Same.new hl _ _ hN2, Same.new hl _ _ (B2 t _ (R.tup hT) hT), Same.new hl _ _ hO2, fun j l' hj => ?_, upd_same, R2.ne hl, fun z => ?_, fun z => ?_⟩
      · obtain ⟨q1, q2⟩ := hLs j l' hj
        have q3 := q1.but R q2 B2
        refine ⟨q3.same (Same.new hl), q2, fun z => ?_⟩
        obtain ⟨_, e, _⟩ := q3
        rw [z, hl] at e
        cases e
      · rw [z, hN2] at hl
        cases hl
      · rw [z, hO2] at hl
        cases hl
    clear hN hT R hO hLs v5 v6 v8 v9 v10
    rintro σ G2 ⟨at8, l, hat, ⟨v5, v6, v10, rfl⟩, R, hN, hT, hO, hLs, hL, nla, nln, nlo⟩
    -- the parts are spoilt
    refine ⟨fun σ H' => ∃ (ws : List V), (∃ v5 v6 v10, σ = [some (.ref sc), some (.ref a), some (.ref n), some (.int (0 + (i : Int))), some (.ref t), v5, v6, some (.ref o), some (.int (at8 : Int)), some (.ref l), v10]) ∧ RowOk K H' a ∧ H' n = some (.lst nmV) ∧ H' t = some (.tup p.vs) ∧
      H' l = some (.lst ws) ∧ ws.length = 8 ∧ (∀ j, j < 8 → ValOk H' (boAt j) (at_ ws j)) ∧ firstWrong ws = some (nameAt at8), ?_, ?_⟩
    · refine ⟨_, rfl, (at8 : Int), 8, rfl, ⟨by omega, by omega, by decide, by decide⟩, for_range (lo := (at8 : Int)) (n := ((8 : Int) - (at8 : Int)).toNat) (fun j σ H' => ∃ (ws : List V), (∃ v5 v6 v10, σ = [some (.ref sc), some (.ref a), some (.ref n), some (.int (0 + (i : Int))), some (.ref t), v5, v6, some (.ref o), some (.int (at8 : Int)), some (.ref l), v10]) ∧ RowOk K H' a ∧
          H' n = some (.lst nmV) ∧ H' t = some (.tup p.vs) ∧ H' o = some (.lst (ls.map V.ref)) ∧ (∀ i l', ls[i]? = some l' → OddL H' i l' ∧ l' ≠ a ∧ l' ≠ l) ∧ H' l = some (.lst ws) ∧ ws.length = 8 ∧
          (∀ m, m < 8 → ValOk H' (boAt m) (at_ ws m)) ∧ (∀ m, m < at8 → at_ ws m = at_ p.vs m) ∧ (0 < j → ¬ at_ ws at8 ∈ chAt at8))
        ⟨p.vs, ⟨_, _, _, rfl⟩, R, hN, hT, hO, hLs, hL, rfl, fun m hm => p.valOk hm, fun _ _ => rfl, fun z => absurd z (Nat.lt_irrefl 0)⟩ ?_ ?_⟩
      · clear hN hT hO hLs hL R v5 v6 v10
        rintro j σ G3 hj ⟨ws, ⟨v5, v6, v10, rfl⟩, R, hN, hT, hO, hLs, hL, hw, hv, hlo, hbad⟩
        have hpl : at8 + j < 8 := by omega
        obtain ⟨l', hl'⟩ : ∃ l', ls[at8 + j]? = some l' := ⟨_, List.getElem?_eq_getElem (by omega)⟩
        have B3 : But a G3 G3 := But.refl
        refine ⟨_, rfl, _, rfl, rfl, _, rfl, ite2 (fun c => ?_) fun c => ⟨_, rfl, a, 2, rfl, by decide, by decide, R, fun v G4 v0 v1 R4 B4 => ⟨rfl, _, rfl, ite2 (fun c2 => ?_) fun c2 => ?_⟩⟩⟩
        · skip
          have hN4 := B3 n _ nna hN
          have hT4 := B3 t _ (R.tup hT) hT
          have hO4 := B3 o _ noa hO
          have hL4 := B3 l _ nla hL
          have hLs4 : ∀ i l', ls[i]? = some l' → OddL G3 i l' ∧ l' ≠ a ∧ l' ≠ l := fun i l' e => ⟨(hLs i l' e).1.but R (hLs i l' e).2.1 B3, (hLs i l' e).2⟩
          have hv4 : ∀ m, m < 8 → ValOk G3 (boAt m) (at_ ws m) := fun m hm => (hv m hm).but R B3
          obtain ⟨⟨vs, hvs, hne, hlen, hodd⟩, nl'a, nl'l⟩ := hLs4 _ _ hl'
          have hat' : atI (ls.map V.ref) ((at8 : Int) + (j : Int)) = some (.ref l') := by
            have e : (at8 : Int) + (j : Int) = ((at8 + j : Nat) : Int) := by omega
            rw [e]
            exact atI_nat (by rw [List.getElem?_map, hl']; rfl)
          have hpos : 0 < vs.length := List.length_pos_iff.mpr hne
          refine ⟨_, rfl, _, rfl, o, _, _, _, rfl, rfl, SqL.of hO4, hat', _, rfl, _, rfl, _, rfl, o, _, _, _, rfl, rfl, SqL.of hO4, hat', l', vs, rfl, .inl (SqL.of hvs), a, (vs.length : Int), rfl, by omega, by omega, R, fun v5' G5 v50 v51 R5 B5 => ?_⟩
          obtain ⟨y, hy, my⟩ := pick v50 v51
          have hL5 := B5 l _ nla hL4
          have hix : ixN ws.length ((at8 : Int) + (j : Int)) = some (at8 + j) := by
            have e : (at8 : Int) + (j : Int) = ((at8 + j : Nat) : Int) := by omega
            rw [e]
            exact ixN_at (by omega)
          refine ⟨l', vs, _, y, rfl, rfl, SqL.of (B5 l' _ nl'a hvs), hy, _, rfl, _, rfl, l, ws, _, at8 + j, rfl, rfl, hL5, hix, ?_⟩
          refine ⟨ws.set (at8 + j) y, ⟨_, _, _, rfl⟩, R5.beside (Loose.lst hL5) nla, by rw [upd_ne (Ne.symm nln)]; exact B5 n _ nna hN4, by rw [upd_ne (ne_of (R.tup hT4 |> fun z => B5 t _ z hT4) hL5 (by intro z; cases z))]; exact B5 t _ (R.tup hT4) hT4, by rw [upd_ne (Ne.symm nlo)]; exact B5 o _ noa hO4,
            fun i l2 e => ⟨((hLs4 i l2 e).1.but R (hLs4 i l2 e).2.1 B5).list hL5 (hLs4 i l2 e).2.2, (hLs4 i l2 e).2⟩, upd_same, by rw [List.length_set]; exact hw, fun m hm => ?_, fun m hm => ?_, fun _ => ?_⟩
          · by_cases e : m = at8 + j
            · rw [e, at_set_eq (by omega)]
              exact ((hodd y my).1.but R B5).list hL5
            · rw [at_set_ne e]
              exact ((hv4 m hm).but R B5).list hL5
          · rw [at_set_ne (by omega)]
            exact hlo m hm
          · by_cases e : j = 0
            · subst e
              rw [Nat.add_zero, at_set_eq (by omega)]
              exact (hodd y my).2
            · rw [at_set_ne (by omega)]
              exact hbad (by omega)
        · skip
          have hN4 := B4 n _ nna hN
          have hT4 := B4 t _ (R.tup hT) hT
          have hO4 := B4 o _ noa hO
          have hL4 := B4 l _ nla hL
          have hLs4 : ∀ i l', ls[i]? = some l' → OddL G4 i l' ∧ l' ≠ a ∧ l' ≠ l := fun i l' e => ⟨(hLs i l' e).1.but R (hLs i l' e).2.1 B4, (hLs i l' e).2⟩
          have hv4 : ∀ m, m < 8 → ValOk G4 (boAt m) (at_ ws m) := fun m hm => (hv m hm).but R B4
          obtain ⟨⟨vs, hvs, hne, hlen, hodd⟩, nl'a, nl'l⟩ := hLs4 _ _ hl'
          have hat' : atI (ls.map V.ref) ((at8 : Int) + (j : Int)) = some (.ref l') := by
            have e : (at8 : Int) + (j : Int) = ((at8 + j : Nat) : Int) := by omega
            rw [e]
            exact atI_nat (by rw [List.getElem?_map, hl']; rfl)
          have hpos : 0 < vs.length := List.length_pos_iff.mpr hne
          refine ⟨_, rfl, _, rfl, o, _, _, _, rfl, rfl, SqL.of hO4, hat', _, rfl, _, rfl, _, rfl, o, _, _, _, rfl, rfl, SqL.of hO4, hat', l', vs, rfl, .inl (SqL.of hvs), a, (vs.length : Int), rfl, by omega, by omega, R4, fun v5' G5 v50 v51 R5 B5 => ?_⟩
          obtain ⟨y, hy, my⟩ := pick v50 v51
          have hL5 := B5 l _ nla hL4
          have hix : ixN ws.length ((at8 : Int) + (j : Int)) = some (at8 + j) := by
            have e : (at8 : Int) + (j : Int) = ((at8 + j : Nat) : Int) := by omega
            rw [e]
            exact ixN_at (by omega)
          refine ⟨l', vs, _, y, rfl, rfl, SqL.of (B5 l' _ nl'a hvs), hy, _, rfl, _, rfl, l, ws, _, at8 + j, rfl, rfl, hL5, hix, ?_⟩
          refine ⟨ws.set (at8 + j) y, ⟨_, _, _, rfl⟩, R5.beside (Loose.lst hL5) nla, by rw [upd_ne (Ne.symm nln)]; exact B5 n _ nna hN4, by rw [upd_ne (ne_of (R4.tup hT4 |> fun z => B5 t _ z hT4) hL5 (by intro z; cases z))]; exact B5 t _ (R4.tup hT4) hT4, by rw [upd_ne (Ne.symm nlo)]; exact B5 o _ noa hO4,
            fun i l2 e => ⟨((hLs4 i l2 e).1.but R4 (hLs4 i l2 e).2.1 B5).list hL5 (hLs4 i l2 e).2.2, (hLs4 i l2 e).2⟩, upd_same, by rw [List.length_set]; exact hw, fun m hm => ?_, fun m hm => ?_, fun _ => ?_⟩
          · by_cases e : m = at8 + j
            · rw [e, at_set_eq (by omega)]
              exact ((hodd y my).1.but R4 B5).list hL5
            · rw [at_set_ne e]
              exact ((hv4 m hm).but R4 B5).list hL5
          · rw [at_set_ne (by omega)]
            exact hlo m hm
          · by_cases e : j = 0
            · subst e
              rw [Nat.add_zero, at_set_eq (by omega)]
              exact (hodd y my).2
            · rw [at_set_ne (by omega)]
              exact hbad (by omega)
        · have j0 : 0 < j := by
            rcases Nat.eq_zero_or_pos j with z | z
            · refine absurd ?_ c
              rw [z]
              exact decide_eq_true (congrArg V.int (by omega))
            · exact z
          exact ⟨ws, ⟨_, _, _, rfl⟩, R4, B4 n _ nna hN, B4 t _ (R.tup hT) hT, B4 o _ noa hO, fun i l' e => ⟨(hLs i l' e).1.but R (hLs i l' e).2.1 B4, (hLs i l' e).2⟩, B4 l _ nla hL, hw, fun m hm => (hv m hm).but R B4, hlo, fun _ => hbad j0⟩
      · rintro σ G3 ⟨ws, ⟨v5, v6, v10, rfl⟩, R, hN, hT, hO, hLs, hL, hw, hv, hlo, hbad⟩
        refine ⟨ws, ⟨_, _, _, rfl⟩, R, hN, hT, hL, hw, hv, first_some (fun m hm => ?_) ?_ hat⟩
        · rw [wrong_ext (vs := p.vs) (by omega) fun k hk => hlo k (by omega)]
          exact hp.right (by omega)
        · unfold wrongAt
          rw [among_not (hbad (by omega))]
          rfl
    clear hN hT hO hLs hL R v5 v6 v10
    rintro σ G3 ⟨ws, ⟨v5, v6, v10, rfl⟩, R, hN, hT, hL, hw, hv, hfw⟩
    -- what is refused
    have hnm : atI nmV (at8 : Int) = some (.str (nameAt at8)) := by
      have e : nmV[at8]? = some (.str (nameAt at8)) := by
        rcases lt8 hat with rfl | rfl | rfl | rfl | rfl | rfl | rfl | rfl <;> rfl
      exact atI_nat e
    refine ⟨_, rfl, l, ws, rfl, .inr (SqL.of hL), hw, hv, fun G4 s4 => ⟨_, rfl, _, rfl, n, nmV, _, _, rfl, rfl, SqL.of (s4 _ _ hN), hnm, ?_⟩⟩
    rw [hfw]
    refine ⟨rfl, _, rfl, ?_⟩
    rw [show (!decide (nameV (some (nameAt at8)) = V.str (nameAt at8))) = false from by rw [decide_eq_true (p := nameV (some (nameAt at8)) = V.str (nameAt at8)) rfl]; rfl]
    refine iteF ?_
    have hT4 := s4 _ _ hT
    have R4 := R.same s4
    have hN4 := s4 _ _ hN
    have at0 : atI p.vs 0 = some (.str p.pt) := atI_at (ws := p.vs) (i := 0) (by show 0 < 8; decide)
    -- the point twice
    refine ⟨fun σ H' => (∃ v5 v6 v7 v8 v9 v10, σ = [some (.ref sc), some (.ref a), some (.ref n), some (.int (0 + (i : Int))), some (.ref t), v5, v6, v7, v8, v9, v10]) ∧ RowOk K H' a ∧ H' n = some (.lst nmV) ∧ H' t = some (.tup p.vs), ?_, ?_⟩
    · refine ⟨_, rfl, t, p.vs, _, _, rfl, rfl, SqT.of hT4, at0, rfl, _, rfl, ite2 (fun c => ?_) fun c => ⟨⟨_, _, _, _, _, _, rfl⟩, R4, hN4, hT4⟩⟩
      have npt : p.pt ≠ "" := fun z => by
        rw [z] at c
        exact absurd c (by decide)
      refine ⟨_, rfl, t, p.vs, _, _, rfl, rfl, SqT.of hT4, at0, _, rfl, t, p.vs, _, _, rfl, rfl, SqT.of hT4, at0, (by show 2 ≤ sizeLine; decide), fun t9 ht9 => ?_⟩
      refine ⟨_, rfl, 2, rfl, t, p.vs, rfl, SqT.of (Same.new ht9 _ _ hT4), fun z => absurd z (wholeC rfl), fun _ t10 ht10 => ?_⟩
      refine ⟨t9, t10, _, _, rfl, rfl, SqT.of (Same.new ht10 _ _ upd_same), SqT.of upd_same, (by intro z; cases z), (by show 8 ≤ sizeLine; decide), (fun z => nomatch z), fun _ t11 ht11 => ?_⟩
      refine ⟨t11, [.str p.pt, .str p.pt, .int p.rs, .bl p.mu, .str p.sg, .bl p.ze, .bl p.bl, .bl p.ex], rfl, .inl (SqT.of upd_same), rfl, fun m hm => ?_, fun G5 s5 => ?_⟩
      · rcases lt8 hm with rfl | rfl | rfl | rfl | rfl | rfl | rfl | rfl
        · exact .str _
        · exact .str _
        · exact .int _
        · exact .bl _
        · exact .str _
        · exact .bl _
        · exact .bl _
        · exact .bl _
      · rw [hp.twice npt]
        refine ⟨rfl, false, by decide +kernel, ?_⟩
        have s6 := ((Same.new ht9).trans ((Same.new ht10).trans (Same.new ht11))).trans s5
        exact iteF ⟨⟨_, _, _, _, _, _, rfl⟩, R4.same s6, s6 _ _ hN4, s6 _ _ hT4⟩
    clear R4 hN4 hT4 hL hfw hv s4 R hN hT
    rintro σ G5 ⟨⟨v5, v6, v7, v8, v9, v10, rfl⟩, R, hN, hT⟩
    -- a blank between the groups, and blanks
    refine ⟨_, rfl, t, p.vs, _, _, rfl, rfl, SqT.of hT, at0, (by show 2 ≤ sizeLine; decide), fun t9 ht9 => ?_⟩
    refine ⟨_, rfl, 2, rfl, 6, rfl, t, p.vs, rfl, SqT.of (Same.new ht9 _ _ hT), fun z => absurd z (wholeD rfl), fun _ t10 ht10 => ?_⟩
    refine ⟨t9, t10, _, _, rfl, rfl, SqT.of (Same.new ht10 _ _ upd_same), SqT.of upd_same, (by intro z; cases z), (by show 6 ≤ sizeLine; decide), (fun z => nomatch z), fun _ t11 ht11 => ?_⟩
    refine ⟨(by show 2 ≤ sizeLine; decide), fun t12 ht12 => ?_⟩
    refine ⟨t11, t12, _, _, rfl, rfl, SqT.of (Same.new ht12 _ _ upd_same), SqT.of upd_same, (by intro z; cases z), (by show 8 ≤ sizeLine; decide), (fun z => nomatch z), fun _ t13 ht13 => ?_⟩
    refine ⟨t13, [.str p.pt, .str " ", .int p.rs, .bl p.mu, .str p.sg, .bl p.ze, .bl true, .non], rfl, .inl (SqT.of upd_same), rfl, fun m hm => ?_, fun G6 s6 => ?_⟩
    · rcases lt8 hm with rfl | rfl | rfl | rfl | rfl | rfl | rfl | rfl
      · exact .str _
      · exact .str _
      · exact .int _
      · exact .bl _
      · exact .str _
      · exact .bl _
      · exact .bl _
      · exact .non
    · rw [hp.blank]
      refine ⟨rfl, false, by decide +kernel, ?_⟩
      have s7 := ((Same.new ht9).trans ((Same.new ht10).trans ((Same.new ht11).trans ((Same.new ht12).trans (Same.new ht13))))).trans s6
      exact iteF ⟨⟨_, _, _, _, _, _, _, _, rfl⟩, R.same s7, s7 _ _ hN⟩
end
end Ra

namespace Ra
open PySem L2 RaX
theorem all_mk {l : PySem.W.OpenLaw} {w : World} {K : PySem.W.Frag} {h : Heap} {mg : Str → Option Value} {fa : Addr} (X : K.In h) (G : h.Ns mainGlobals mg) (hfa : mg "law" = some (.ref fa)) (htop : (l.prog.main.scope.names.lookup ("super" : Str)).isSome = false)
    {C RE c0 : Addr}
    {C_BP fi_BP cda_BP cc_BP : Addr}
    {N_BP : Addr}
    {nm_BP qn_BP : Str}
    {bs_BP sub_BP : List Value}
    {sn_BP : List Str}
    {ab_BP : Bool}
    {col_BP : Option Bool}
    {dd_BP : Option Addr}
    {m0_BP m1_BP m2_BP m3_BP m5_BP : Option Value}
    {od_BP an_BP cdd_BP cld_BP : Option Addr}
    {oc_BP dc_BP pm_BP ct_BP ccl_BP cl_BP : Value}
    {sl_BP ccs_BP csl_BP : Array (Option Value)}
    {vs_BP : Array Value}
    {file_BP : Str}
    {tf_BP : Tok}
    {C_BR : Addr}
    {f_init : Addr}
    {od_init an_init : Option Addr}
    {sl_init : Array (Option Value)}
    {oc_init kV_init dc_init pm_init cd_init ct_init : Value}
    {f_eq : Addr}
    {od_eq an_eq : Option Addr}
    {sl_eq : Array (Option Value)}
    {oc_eq kV_eq dc_eq pm_eq cd_eq ct_eq : Value}
    {p0 : Addr}
    {r0 : List Value}
    {f_g0 : Addr}
    {od_g0 an_g0 : Option Addr}
    {sl_g0 : Array (Option Value)}
    {oc_g0 kV_g0 dc_g0 pm_g0 cd_g0 ct_g0 : Value}
    {p1 : Addr}
    {r1 : List Value}
    {f_g1 : Addr}
    {od_g1 an_g1 : Option Addr}
    {sl_g1 : Array (Option Value)}
    {oc_g1 kV_g1 dc_g1 pm_g1 cd_g1 ct_g1 : Value}
    {p2 : Addr}
    {r2 : List Value}
    {f_g2 : Addr}
    {od_g2 an_g2 : Option Addr}
    {sl_g2 : Array (Option Value)}
    {oc_g2 kV_g2 dc_g2 pm_g2 cd_g2 ct_g2 : Value}
    {p3 : Addr}
    {r3 : List Value}
    {f_g3 : Addr}
    {od_g3 an_g3 : Option Addr}
    {sl_g3 : Array (Option Value)}
    {oc_g3 kV_g3 dc_g3 pm_g3 cd_g3 ct_g3 : Value}
    {p4 : Addr}
    {r4 : List Value}
    {f_g4 : Addr}
    {od_g4 an_g4 : Option Addr}
    {sl_g4 : Array (Option Value)}
    {oc_g4 kV_g4 dc_g4 pm_g4 cd_g4 ct_g4 : Value}
    {p5 : Addr}
    {r5 : List Value}
    {f_g5 : Addr}
    {od_g5 an_g5 : Option Addr}
    {sl_g5 : Array (Option Value)}
    {oc_g5 kV_g5 dc_g5 pm_g5 cd_g5 ct_g5 : Value}
    {p6 : Addr}
    {r6 : List Value}
    {f_g6 : Addr}
    {od_g6 an_g6 : Option Addr}
    {sl_g6 : Array (Option Value)}
    {oc_g6 kV_g6 dc_g6 pm_g6 cd_g6 ct_g6 : Value}
    {p7 : Addr}
    {r7 : List Value}
    {f_g7 : Addr}
    {od_g7 an_g7 : Option Addr}
    {sl_g7 : Array (Option Value)}
    {oc_g7 kV_g7 dc_g7 pm_g7 cd_g7 ct_g7 : Value}
    {d0 : Option Addr}
    {z0 : Nat}
    {s0 : Array (Option Value)}
    {q0 q1 q2 q3 q4 q5 q6 q7 r_0 r_1 r_2 r_3 r_4 r_5 r_6 r_7 : Addr}
    {d1_0 d2_0 : Option Addr}
    {z1_0 z2_0 : Nat}
    {s1_0 s2_0 : Array (Option Value)}
    {t_0 t_0_0 t_0_1 t_0_2 : Tok}
    {d1_1 d2_1 : Option Addr}
    {z1_1 z2_1 : Nat}
    {s1_1 s2_1 : Array (Option Value)}
    {t_1 t_1_0 t_1_1 t_1_2 t_1_3 t_1_4 : Tok}
    {d1_2 d2_2 : Option Addr}
    {z1_2 z2_2 : Nat}
    {s1_2 s2_2 : Array (Option Value)}
    {t_2 t_2_0 t_2_1 : Tok}
    {d1_3 d2_3 : Option Addr}
    {z1_3 z2_3 : Nat}
    {s1_3 s2_3 : Array (Option Value)}
    {t_3 : Tok}
    {d1_4 d2_4 : Option Addr}
    {z1_4 z2_4 : Nat}
    {s1_4 s2_4 : Array (Option Value)}
    {t_4 t_4_0 t_4_1 t_4_2 : Tok}
    {d1_5 d2_5 : Option Addr}
    {z1_5 z2_5 : Nat}
    {s1_5 s2_5 : Array (Option Value)}
    {t_5 : Tok}
    {d1_6 d2_6 : Option Addr}
    {z1_6 z2_6 : Nat}
    {s1_6 s2_6 : Array (Option Value)}
    {t_6 : Tok}
    {d1_7 d2_7 : Option Addr}
    {z1_7 z2_7 : Nat}
    {s1_7 s2_7 : Array (Option Value)}
    {t_7 : Tok}
    {f_taken : Addr}
    {od_taken an_taken : Option Addr}
    {sl_taken : Array (Option Value)}
    {oc_taken kV_taken dc_taken pm_taken cd_taken ct_taken : Value}
    {f_parts : Addr}
    {od_parts an_parts : Option Addr}
    {sl_parts : Array (Option Value)}
    {oc_parts kV_parts dc_parts pm_parts cd_parts ct_parts : Value}
    {f_made : Addr}
    {od_made an_made : Option Addr}
    {sl_made : Array (Option Value)}
    {oc_made kV_made dc_made pm_made cd_made ct_made : Value}
    {f_near : Addr}
    {od_near an_near : Option Addr}
    {sl_near : Array (Option Value)}
    {oc_near kV_near dc_near pm_near cd_near ct_near : Value}
    {f_refused : Addr}
    {od_refused an_refused : Option Addr}
    {sl_refused : Array (Option Value)}
    {oc_refused kV_refused dc_refused pm_refused cd_refused ct_refused : Value}
    {f_partsR : Addr}
    {od_partsR an_partsR : Option Addr}
    {sl_partsR : Array (Option Value)}
    {oc_partsR kV_partsR dc_partsR pm_partsR cd_partsR ct_partsR : Value}
    {f_chk : Addr}
    {od_chk an_chk : Option Addr}
    {sl_chk : Array (Option Value)}
    {oc_chk kV_chk dc_chk pm_chk cd_chk ct_chk : Value}
    {f_first : Addr}
    {od_first an_first : Option Addr}
    {sl_first : Array (Option Value)}
    {oc_first kV_first dc_first pm_first cd_first ct_first : Value}
    {f_among : Addr}
    {od_among an_among : Option Addr}
    {sl_among : Array (Option Value)}
    {oc_among kV_among dc_among pm_among cd_among ct_among : Value}
    {f_clash : Addr}
    {od_clash an_clash : Option Addr}
    {sl_clash : Array (Option Value)}
    {oc_clash kV_clash dc_clash pm_clash cd_clash ct_clash : Value}
    {f_law : Addr}
    {od_law an_law : Option Addr}
    {sl_law : Array (Option Value)}
    {oc_law kV_law dc_law pm_law cd_law ct_law : Value}
    (a_Rd : PySem.W.nsIn K mainGlobals "Reader" = some (some (.ref C)))
    (a_RE : PySem.W.nsIn K mainGlobals "ReaderError" = some (some (.ref RE)))
    (n_int : PySem.W.nsIn K mainGlobals "int" = some none)
    (n_len : PySem.W.nsIn K mainGlobals "len" = some none)
    (n_isinstance : PySem.W.nsIn K mainGlobals "isinstance" = some none)
    (n_bool : PySem.W.nsIn K mainGlobals "bool" = some none)
    (n_any : PySem.W.nsIn K mainGlobals "any" = some none)
    (n_zip : PySem.W.nsIn K mainGlobals "zip" = some none)
    (n_range : PySem.W.nsIn K mainGlobals "range" = some none)
    (n_list : PySem.W.nsIn K mainGlobals "list" = some none)
    (n_tuple : PySem.W.nsIn K mainGlobals "tuple" = some none)
    (n_super : PySem.W.nsIn K mainGlobals "super" = some none)
    (ops : PySem.W.nsIn K PySem.cStatics "thirdparty.any" = some none)
    (a_BP : PySem.W.nsIn K mainGlobals "BadPart" = some (some (.ref C_BP)))
    (x_BP : K.lookup C_BP = some (excClassObj nm_BP qn_BP C_BP N_BP bs_BP [.ref RE, .type "ValueError", .type "Exception", .type "BaseException", .type "object"] true sn_BP sub_BP ab_BP col_BP dd_BP m0_BP m1_BP m2_BP m3_BP m5_BP "ValueError.__new__"))
    (al_BP : PySem.W.alongIn K "__init__" [.ref RE, .type "ValueError", .type "Exception", .type "BaseException", .type "object"] = some (some (.builtin "ValueError.__init__")))
    (sa_BP : PySem.W.findIn K (.ref C_BP) "__setattr__" = some (some (.builtin "object.__setattr__")))
    (ga_BP : PySem.W.findIn K (.ref C_BP) "__getattribute__" = some (some (.builtin "BaseException.__getattribute__")))
    (gg_BP : PySem.W.findIn K (.ref C_BP) "__getattr__" = some none)
    (nn_BP : PySem.W.findIn K (.ref C_BP) "part" = some none)
    (ii_BP : PySem.W.findIn K (.ref C_BP) "__init__" = some (some (.ref fi_BP)))
    (ti_BP : PySem.W.typeIn K (.ref fi_BP) = some (.type "function"))
    (kc_BP : PySem.W.keepIn K (.ref C_BP) = true)
    (eb_BP : PySem.W.subIn K (.ref C_BP) (.type "BaseException") = some true)
    (ev_BP : PySem.W.subIn K (.ref C_BP) (.type "ValueError") = some true)
    (et_BP : PySem.W.typeIn K (.ref C_BP) = some (.type "type"))
    (hd_BP : PySem.W.hasDictIn K C_BP = true)
    (ow_BP : PySem.W.mroIn K C_BP (.ref C_BP) = some true)
    (ic_BP : PySem.W.isClsIn K C_BP = true)
    (se_BP : PySem.W.subIn K (.ref C_BP) (.ref C_BP) = some true)
    (l_BP : K.lookup fi_BP = some ⟨oc_BP, od_BP, .func (PySem.W.ksFn "__init__" "BadPart.__init__" (RaX.iA "part" ⟨6, 17, 6, 21⟩ ⟨6, 23, 6, 27⟩) (RaX.iB "part" "a reader cannot have this as its part " ⟨⟨7, 8, 7, 13⟩, ⟨7, 8, 7, 15⟩, ⟨7, 8, 7, 24⟩, ⟨7, 27, 7, 65⟩, ⟨7, 66, 7, 70⟩, ⟨7, 65, 7, 71⟩, ⟨7, 25, 7, 72⟩, ⟨7, 8, 7, 73⟩, ⟨7, 8, 7, 73⟩, ⟨8, 8, 8, 12⟩, ⟨8, 8, 8, 17⟩, ⟨8, 20, 8, 24⟩, ⟨8, 8, 8, 24⟩⟩) (RaX.iS "part") .none .none dc_BP pm_BP an_BP (.ref cda_BP) ct_BP cc_BP), sl_BP⟩)
    (cd_BP : PySem.W.codeIn K (.ref cda_BP) "BadPart.__init__" = true)
    (lc_BP : K.lookup cda_BP = some ⟨ccl_BP, cdd_BP, .fields vs_BP, ccs_BP⟩)
    (v2_BP : vs_BP[2]? = some (.str file_BP tf_BP))
    (fi_BPe : ((l.prog).main.file == file_BP) = true)
    (lz_BP : K.lookup cc_BP = some ⟨cl_BP, cld_BP, .cell (some (.ref C_BP)), csl_BP⟩)
    (a_BR : PySem.W.nsIn K mainGlobals "BadReader" = some (some (.ref C_BR)))
    (kc_BR : PySem.W.keepIn K (.ref C_BR) = true)
    (q_BR : PySem.W.excIn K C_BR [.type "ValueError", .type "Exception", .type "BaseException", .type "object"] "ValueError.__new__" = true)
    (eb_BR : PySem.W.subIn K (.ref C_BR) (.type "BaseException") = some true)
    (et_BR : PySem.W.typeIn K (.ref C_BR) = some (.type "type"))
    (pg : PySem.W.plainGet K C Str.empty = true)
    (hd : PySem.W.hasDictIn K C = true)
    (po : PySem.W.plainOver K C = true)
    (sa : PySem.W.findIn K (.ref C) "__setattr__" = some (some (.builtin "object.__setattr__")))
    (mk : PySem.W.makesIn K C = true)
    (kc : PySem.W.keepIn K (.ref C) = true)
    (np : PySem.W.findIn K (.ref C) "_parts" = some none)
    (ha : PySem.W.findIn K (.ref C) "__class__" = some (some (.builtin "object.__class__")))
    (hn : PySem.W.specialIn K (.builtin "object.__class__") "__get__" = some (some (.builtin "getset_descriptor.__get__")))
    (htk : PySem.W.takesIn K (.builtin "object.__class__") = some true)
    (hm : PySem.W.mroIn K C (.type "object") = some true)
    (me : PySem.W.kitOne K (.ref C) (.ref C) = some true)
    (nfT : PySem.W.notFirst K C (.type "tuple") = true)
    (nfR : PySem.W.notFirst K C (.ref C) = true)
    (noT : PySem.W.kitOne K (.type "tuple") (.ref C) = some false)
    (a_init : PySem.W.findIn K (.ref C) "__init__" = some (some (.ref f_init)))
    (i_init : PySem.W.isFn K (.ref f_init) = true)
    (l_init : K.lookup f_init = some ⟨oc_init, od_init, .func (PySem.W.fnOf "__init__" "Reader.__init__" (defArgs sInit) (defBody sInit) (defScope sInit) .none kV_init dc_init pm_init an_init cd_init ct_init), sl_init⟩)
    (c_init : PySem.W.codeIn K cd_init "Reader.__init__" = true)
    (k_init : PySem.W.keepIn K (.ref f_init) = true)
    (a_eq : PySem.W.findIn K (.ref C) "__eq__" = some (some (.ref f_eq)))
    (i_eq : PySem.W.isFn K (.ref f_eq) = true)
    (l_eq : K.lookup f_eq = some ⟨oc_eq, od_eq, .func (PySem.W.fnOf "__eq__" "Reader.__eq__" (defArgs sEq) (defBody sEq) (defScope sEq) .none kV_eq dc_eq pm_eq an_eq cd_eq ct_eq), sl_eq⟩)
    (c_eq : PySem.W.codeIn K cd_eq "Reader.__eq__" = true)
    (k_eq : PySem.W.keepIn K (.ref f_eq) = true)
    (pa0 : PySem.W.findIn K (.ref C) "point" = some (some (.ref p0)))
    (pb0 : PySem.W.specialIn K (.ref p0) "__get__" = some (some (.builtin "property.__get__")))
    (pc0 : PySem.W.takesIn K (.ref p0) = some true)
    (pd0 : PySem.W.recIn K p0 "property" = some (.ref f_g0 :: r0))
    (l_g0 : K.lookup f_g0 = some ⟨oc_g0, od_g0, .func (PySem.W.fnOf "point" "Reader.point" (defArgs (sProp 0)) (defBody (sProp 0)) (defScope (sProp 0)) .none kV_g0 dc_g0 pm_g0 an_g0 cd_g0 ct_g0), sl_g0⟩)
    (c_g0 : PySem.W.codeIn K cd_g0 "Reader.point" = true)
    (k_g0 : PySem.W.keepIn K (.ref f_g0) = true)
    (pa1 : PySem.W.findIn K (.ref C) "comma" = some (some (.ref p1)))
    (pb1 : PySem.W.specialIn K (.ref p1) "__get__" = some (some (.builtin "property.__get__")))
    (pc1 : PySem.W.takesIn K (.ref p1) = some true)
    (pd1 : PySem.W.recIn K p1 "property" = some (.ref f_g1 :: r1))
    (l_g1 : K.lookup f_g1 = some ⟨oc_g1, od_g1, .func (PySem.W.fnOf "comma" "Reader.comma" (defArgs (sProp 1)) (defBody (sProp 1)) (defScope (sProp 1)) .none kV_g1 dc_g1 pm_g1 an_g1 cd_g1 ct_g1), sl_g1⟩)
    (c_g1 : PySem.W.codeIn K cd_g1 "Reader.comma" = true)
    (k_g1 : PySem.W.keepIn K (.ref f_g1) = true)
    (pa2 : PySem.W.findIn K (.ref C) "rest" = some (some (.ref p2)))
    (pb2 : PySem.W.specialIn K (.ref p2) "__get__" = some (some (.builtin "property.__get__")))
    (pc2 : PySem.W.takesIn K (.ref p2) = some true)
    (pd2 : PySem.W.recIn K p2 "property" = some (.ref f_g2 :: r2))
    (l_g2 : K.lookup f_g2 = some ⟨oc_g2, od_g2, .func (PySem.W.fnOf "rest" "Reader.rest" (defArgs (sProp 2)) (defBody (sProp 2)) (defScope (sProp 2)) .none kV_g2 dc_g2 pm_g2 an_g2 cd_g2 ct_g2), sl_g2⟩)
    (c_g2 : PySem.W.codeIn K cd_g2 "Reader.rest" = true)
    (k_g2 : PySem.W.keepIn K (.ref f_g2) = true)
    (pa3 : PySem.W.findIn K (.ref C) "must" = some (some (.ref p3)))
    (pb3 : PySem.W.specialIn K (.ref p3) "__get__" = some (some (.builtin "property.__get__")))
    (pc3 : PySem.W.takesIn K (.ref p3) = some true)
    (pd3 : PySem.W.recIn K p3 "property" = some (.ref f_g3 :: r3))
    (l_g3 : K.lookup f_g3 = some ⟨oc_g3, od_g3, .func (PySem.W.fnOf "must" "Reader.must" (defArgs (sProp 3)) (defBody (sProp 3)) (defScope (sProp 3)) .none kV_g3 dc_g3 pm_g3 an_g3 cd_g3 ct_g3), sl_g3⟩)
    (c_g3 : PySem.W.codeIn K cd_g3 "Reader.must" = true)
    (k_g3 : PySem.W.keepIn K (.ref f_g3) = true)
    (pa4 : PySem.W.findIn K (.ref C) "sign" = some (some (.ref p4)))
    (pb4 : PySem.W.specialIn K (.ref p4) "__get__" = some (some (.builtin "property.__get__")))
    (pc4 : PySem.W.takesIn K (.ref p4) = some true)
    (pd4 : PySem.W.recIn K p4 "property" = some (.ref f_g4 :: r4))
    (l_g4 : K.lookup f_g4 = some ⟨oc_g4, od_g4, .func (PySem.W.fnOf "sign" "Reader.sign" (defArgs (sProp 4)) (defBody (sProp 4)) (defScope (sProp 4)) .none kV_g4 dc_g4 pm_g4 an_g4 cd_g4 ct_g4), sl_g4⟩)
    (c_g4 : PySem.W.codeIn K cd_g4 "Reader.sign" = true)
    (k_g4 : PySem.W.keepIn K (.ref f_g4) = true)
    (pa5 : PySem.W.findIn K (.ref C) "zeros" = some (some (.ref p5)))
    (pb5 : PySem.W.specialIn K (.ref p5) "__get__" = some (some (.builtin "property.__get__")))
    (pc5 : PySem.W.takesIn K (.ref p5) = some true)
    (pd5 : PySem.W.recIn K p5 "property" = some (.ref f_g5 :: r5))
    (l_g5 : K.lookup f_g5 = some ⟨oc_g5, od_g5, .func (PySem.W.fnOf "zeros" "Reader.zeros" (defArgs (sProp 5)) (defBody (sProp 5)) (defScope (sProp 5)) .none kV_g5 dc_g5 pm_g5 an_g5 cd_g5 ct_g5), sl_g5⟩)
    (c_g5 : PySem.W.codeIn K cd_g5 "Reader.zeros" = true)
    (k_g5 : PySem.W.keepIn K (.ref f_g5) = true)
    (pa6 : PySem.W.findIn K (.ref C) "blanks" = some (some (.ref p6)))
    (pb6 : PySem.W.specialIn K (.ref p6) "__get__" = some (some (.builtin "property.__get__")))
    (pc6 : PySem.W.takesIn K (.ref p6) = some true)
    (pd6 : PySem.W.recIn K p6 "property" = some (.ref f_g6 :: r6))
    (l_g6 : K.lookup f_g6 = some ⟨oc_g6, od_g6, .func (PySem.W.fnOf "blanks" "Reader.blanks" (defArgs (sProp 6)) (defBody (sProp 6)) (defScope (sProp 6)) .none kV_g6 dc_g6 pm_g6 an_g6 cd_g6 ct_g6), sl_g6⟩)
    (c_g6 : PySem.W.codeIn K cd_g6 "Reader.blanks" = true)
    (k_g6 : PySem.W.keepIn K (.ref f_g6) = true)
    (pa7 : PySem.W.findIn K (.ref C) "exponent" = some (some (.ref p7)))
    (pb7 : PySem.W.specialIn K (.ref p7) "__get__" = some (some (.builtin "property.__get__")))
    (pc7 : PySem.W.takesIn K (.ref p7) = some true)
    (pd7 : PySem.W.recIn K p7 "property" = some (.ref f_g7 :: r7))
    (l_g7 : K.lookup f_g7 = some ⟨oc_g7, od_g7, .func (PySem.W.fnOf "exponent" "Reader.exponent" (defArgs (sProp 7)) (defBody (sProp 7)) (defScope (sProp 7)) .none kV_g7 dc_g7 pm_g7 an_g7 cd_g7 ct_g7), sl_g7⟩)
    (c_g7 : PySem.W.codeIn K cd_g7 "Reader.exponent" = true)
    (k_g7 : PySem.W.keepIn K (.ref f_g7) = true)
    (a_CH : PySem.W.nsIn K mainGlobals "CHOICES" = some (some (.ref c0)))
    (c_0 : K.lookup c0 = some ⟨.type "tuple", d0, .seq [.ref q0, .ref q1, .ref q2, .ref q3, .ref q4, .ref q5, .ref q6, .ref q7].toArray z0, s0⟩)
    (cq0 : K.lookup q0 = some ⟨.type "tuple", d1_0, .seq [.str "point" t_0, .ref r_0].toArray z1_0, s1_0⟩)
    (cr0 : K.lookup r_0 = some ⟨.type "tuple", d2_0, .seq [.str "." t_0_0, .str "," t_0_1, .str "" t_0_2].toArray z2_0, s2_0⟩)
    (cq1 : K.lookup q1 = some ⟨.type "tuple", d1_1, .seq [.str "comma" t_1, .ref r_1].toArray z1_1, s1_1⟩)
    (cr1 : K.lookup r_1 = some ⟨.type "tuple", d2_1, .seq [.str "." t_1_0, .str "," t_1_1, .str "'" t_1_2, .str " " t_1_3, .str "" t_1_4].toArray z2_1, s2_1⟩)
    (cq2 : K.lookup q2 = some ⟨.type "tuple", d1_2, .seq [.str "rest" t_2, .ref r_2].toArray z1_2, s1_2⟩)
    (cr2 : K.lookup r_2 = some ⟨.type "tuple", d2_2, .seq [.int 3 t_2_0, .int 2 t_2_1].toArray z2_2, s2_2⟩)
    (cq3 : K.lookup q3 = some ⟨.type "tuple", d1_3, .seq [.str "must" t_3, .ref r_3].toArray z1_3, s1_3⟩)
    (cr3 : K.lookup r_3 = some ⟨.type "tuple", d2_3, .seq [.bool false, .bool true].toArray z2_3, s2_3⟩)
    (cq4 : K.lookup q4 = some ⟨.type "tuple", d1_4, .seq [.str "sign" t_4, .ref r_4].toArray z1_4, s1_4⟩)
    (cr4 : K.lookup r_4 = some ⟨.type "tuple", d2_4, .seq [.str "none" t_4_0, .str "ahead" t_4_1, .str "behind" t_4_2].toArray z2_4, s2_4⟩)
    (cq5 : K.lookup q5 = some ⟨.type "tuple", d1_5, .seq [.str "zeros" t_5, .ref r_5].toArray z1_5, s1_5⟩)
    (cr5 : K.lookup r_5 = some ⟨.type "tuple", d2_5, .seq [.bool false, .bool true].toArray z2_5, s2_5⟩)
    (cq6 : K.lookup q6 = some ⟨.type "tuple", d1_6, .seq [.str "blanks" t_6, .ref r_6].toArray z1_6, s1_6⟩)
    (cr6 : K.lookup r_6 = some ⟨.type "tuple", d2_6, .seq [.bool false, .bool true].toArray z2_6, s2_6⟩)
    (cq7 : K.lookup q7 = some ⟨.type "tuple", d1_7, .seq [.str "exponent" t_7, .ref r_7].toArray z1_7, s1_7⟩)
    (cr7 : K.lookup r_7 = some ⟨.type "tuple", d2_7, .seq [.bool false, .bool true].toArray z2_7, s2_7⟩)
    (a_taken : PySem.W.nsIn K mainGlobals "_law_taken" = some (some (.ref f_taken)))
    (l_taken : K.lookup f_taken = some ⟨oc_taken, od_taken, .func (PySem.W.fnOf "_law_taken" "_law_taken" (defArgs sTaken) (defBody sTaken) (defScope sTaken) .none kV_taken dc_taken pm_taken an_taken cd_taken ct_taken), sl_taken⟩)
    (c_taken : PySem.W.codeIn K cd_taken "_law_taken" = true)
    (k_taken : PySem.W.keepIn K (.ref f_taken) = true)
    (a_parts : PySem.W.nsIn K mainGlobals "_law_parts" = some (some (.ref f_parts)))
    (l_parts : K.lookup f_parts = some ⟨oc_parts, od_parts, .func (PySem.W.fnOf "_law_parts" "_law_parts" (defArgs sParts) (defBody sParts) (defScope sParts) .none kV_parts dc_parts pm_parts an_parts cd_parts ct_parts), sl_parts⟩)
    (c_parts : PySem.W.codeIn K cd_parts "_law_parts" = true)
    (k_parts : PySem.W.keepIn K (.ref f_parts) = true)
    (a_made : PySem.W.nsIn K mainGlobals "_law_made" = some (some (.ref f_made)))
    (l_made : K.lookup f_made = some ⟨oc_made, od_made, .func (PySem.W.fnOf "_law_made" "_law_made" (defArgs sMade) (defBody sMade) (defScope sMade) .none kV_made dc_made pm_made an_made cd_made ct_made), sl_made⟩)
    (c_made : PySem.W.codeIn K cd_made "_law_made" = true)
    (k_made : PySem.W.keepIn K (.ref f_made) = true)
    (a_near : PySem.W.nsIn K mainGlobals "_law_near" = some (some (.ref f_near)))
    (l_near : K.lookup f_near = some ⟨oc_near, od_near, .func (PySem.W.fnOf "_law_near" "_law_near" (defArgs sNear) (defBody sNear) (defScope sNear) .none kV_near dc_near pm_near an_near cd_near ct_near), sl_near⟩)
    (c_near : PySem.W.codeIn K cd_near "_law_near" = true)
    (k_near : PySem.W.keepIn K (.ref f_near) = true)
    (a_refused : PySem.W.nsIn K mainGlobals "_law_refused" = some (some (.ref f_refused)))
    (l_refused : K.lookup f_refused = some ⟨oc_refused, od_refused, .func (PySem.W.fnOf "_law_refused" "_law_refused" (defArgs sRef) (defBody sRef) (defScope sRef) .none kV_refused dc_refused pm_refused an_refused cd_refused ct_refused), sl_refused⟩)
    (c_refused : PySem.W.codeIn K cd_refused "_law_refused" = true)
    (k_refused : PySem.W.keepIn K (.ref f_refused) = true)
    (a_partsR : PySem.W.nsIn K mainGlobals "parts" = some (some (.ref f_partsR)))
    (l_partsR : K.lookup f_partsR = some ⟨oc_partsR, od_partsR, .func (PySem.W.fnOf "parts" "parts" (defArgs sPartsR) (defBody sPartsR) (defScope sPartsR) .none kV_partsR dc_partsR pm_partsR an_partsR cd_partsR ct_partsR), sl_partsR⟩)
    (c_partsR : PySem.W.codeIn K cd_partsR "parts" = true)
    (k_partsR : PySem.W.keepIn K (.ref f_partsR) = true)
    (a_chk : PySem.W.nsIn K mainGlobals "check_reader" = some (some (.ref f_chk)))
    (l_chk : K.lookup f_chk = some ⟨oc_chk, od_chk, .func (PySem.W.fnOf "check_reader" "check_reader" (defArgs sChk) (defBody sChk) (defScope sChk) .none kV_chk dc_chk pm_chk an_chk cd_chk ct_chk), sl_chk⟩)
    (c_chk : PySem.W.codeIn K cd_chk "check_reader" = true)
    (k_chk : PySem.W.keepIn K (.ref f_chk) = true)
    (a_first : PySem.W.nsIn K mainGlobals "_first_wrong" = some (some (.ref f_first)))
    (l_first : K.lookup f_first = some ⟨oc_first, od_first, .func (PySem.W.fnOf "_first_wrong" "_first_wrong" (defArgs sFirst) (defBody sFirst) (defScope sFirst) .none kV_first dc_first pm_first an_first cd_first ct_first), sl_first⟩)
    (c_first : PySem.W.codeIn K cd_first "_first_wrong" = true)
    (k_first : PySem.W.keepIn K (.ref f_first) = true)
    (a_among : PySem.W.nsIn K mainGlobals "_is_among" = some (some (.ref f_among)))
    (l_among : K.lookup f_among = some ⟨oc_among, od_among, .func (PySem.W.fnOf "_is_among" "_is_among" (defArgs sAmong) (defBody sAmong) (defScope sAmong) .none kV_among dc_among pm_among an_among cd_among ct_among), sl_among⟩)
    (c_among : PySem.W.codeIn K cd_among "_is_among" = true)
    (k_among : PySem.W.keepIn K (.ref f_among) = true)
    (a_clash : PySem.W.nsIn K mainGlobals "_clashes" = some (some (.ref f_clash)))
    (l_clash : K.lookup f_clash = some ⟨oc_clash, od_clash, .func (PySem.W.fnOf "_clashes" "_clashes" (defArgs sClash) (defBody sClash) (defScope sClash) .none kV_clash dc_clash pm_clash an_clash cd_clash ct_clash), sl_clash⟩)
    (c_clash : PySem.W.codeIn K cd_clash "_clashes" = true)
    (k_clash : PySem.W.keepIn K (.ref f_clash) = true)
    (a_law : PySem.W.nsIn K mainGlobals "law" = some (some (.ref f_law)))
    (l_law : K.lookup f_law = some ⟨oc_law, od_law, .func (PySem.W.fnOf "law" "law" (defArgs sLaw) (defBody sLaw) (defScope sLaw) .none kV_law dc_law pm_law an_law cd_law ct_law), sl_law⟩)
    (c_law : PySem.W.codeIn K cd_law "law" = true)
    (k_law : PySem.W.keepIn K (.ref f_law) = true)
    : ∃ fd : FuncData, (∀ (s : Shared) (v : Value), BindsTo s fd ⟨[v], []⟩ [("_law_script", v)]) ∧ ∀ base : Heap, K.In base → base.Ns mainGlobals mg → FnOk l.prog w K mg base CX0 9 fa fd ["_law_script"] (spLaw K) := by
  have B_BP : RaX.BadTxt (l.prog) K mg "BadPart" "part" C_BP fi_BP := { gC := (PySem.W.mg_of X G a_BP), cls := ⟨_, _, _, _, _, _, _, _, _, _, _, _, _, _, _, x_BP, (show PySem.HandSPX.refsVE [.type "ValueError", .type "Exception", .type "BaseException", .type "object"] = true from by decide +kernel), al_BP⟩, sa := sa_BP, ga := ga_BP, gg := gg_BP, noN := nn_BP, iC := ii_BP, tC := ti_BP, kC := kc_BP, exC := eb_BP, vaC := ev_BP, tyC := et_BP, hdC := hd_BP, own := ow_BP, ops := ops, sup := PySem.W.mg_none_of X G n_super, fok := ⟨by decide +kernel, by decide +kernel, by decide +kernel, by decide +kernel, by decide +kernel, fun _ _ _ _ _ _ _ _ _ _ _ _ _ => rfl⟩, top := htop, fn := ⟨"BadPart.__init__", "a reader cannot have this as its part ", _, _, _, _, _, _, _, _, _, _, _, ⟨⟨7, 8, 7, 13⟩, ⟨7, 8, 7, 15⟩, ⟨7, 8, 7, 24⟩, ⟨7, 27, 7, 65⟩, ⟨7, 66, 7, 70⟩, ⟨7, 65, 7, 71⟩, ⟨7, 25, 7, 72⟩, ⟨7, 8, 7, 73⟩, ⟨7, 8, 7, 73⟩, ⟨8, 8, 8, 12⟩, ⟨8, 8, 8, 17⟩, ⟨8, 20, 8, 24⟩, ⟨8, 8, 8, 24⟩⟩, _, _, _, _, _, _, _, _, _, l_BP, cd_BP, by decide +kernel, by decide +kernel, lc_BP, v2_BP, fi_BPe, lz_BP⟩ }
  have te_BP : PySem.W.exmOne K (.ref C_BP) (.ref C_BP) = some true := Ra.exm_self eb_BP ic_BP et_BP se_BP
  have E_BR : ErrK K mg "BadReader" C_BR := ⟨(PySem.W.mg_of X G a_BR), kc_BR, q_BR, eb_BR, et_BR⟩
  have F_init := fun_mk (st := sInit) l_init c_init k_init
  have F_eq := fun_mk (st := sEq) l_eq c_eq k_eq
  have F_g0 := fun_mk (st := (sProp 0)) l_g0 c_g0 k_g0
  have F_g1 := fun_mk (st := (sProp 1)) l_g1 c_g1 k_g1
  have F_g2 := fun_mk (st := (sProp 2)) l_g2 c_g2 k_g2
  have F_g3 := fun_mk (st := (sProp 3)) l_g3 c_g3 k_g3
  have F_g4 := fun_mk (st := (sProp 4)) l_g4 c_g4 k_g4
  have F_g5 := fun_mk (st := (sProp 5)) l_g5 c_g5 k_g5
  have F_g6 := fun_mk (st := (sProp 6)) l_g6 c_g6 k_g6
  have F_g7 := fun_mk (st := (sProp 7)) l_g7 c_g7 k_g7
  have F_taken := fun_mk (st := sTaken) l_taken c_taken k_taken
  have F_parts := fun_mk (st := sParts) l_parts c_parts k_parts
  have F_made := fun_mk (st := sMade) l_made c_made k_made
  have F_near := fun_mk (st := sNear) l_near c_near k_near
  have F_refused := fun_mk (st := sRef) l_refused c_refused k_refused
  have F_partsR := fun_mk (st := sPartsR) l_partsR c_partsR k_partsR
  have F_chk := fun_mk (st := sChk) l_chk c_chk k_chk
  have F_first := fun_mk (st := sFirst) l_first c_first k_first
  have F_among := fun_mk (st := sAmong) l_among c_among k_among
  have F_clash := fun_mk (st := sClash) l_clash c_clash k_clash
  have F_law := fun_mk (st := sLaw) l_law c_law k_law
  have b_init := F_init.binds (ps := ["self", "point", "comma", "rest", "must", "sign", "zeros", "blanks", "exponent"]) fun _ _ _ _ _ _ us hl => match us, hl with | [_, _, _, _, _, _, _, _, _], _ => rfl
  have b_eq := F_eq.binds (ps := ["self", "other"]) fun _ _ _ _ _ _ us hl => match us, hl with | [_, _], _ => rfl
  have b_g0 := F_g0.binds (ps := ["self"]) fun _ _ _ _ _ _ us hl => match us, hl with | [_], _ => rfl
  have b_g1 := F_g1.binds (ps := ["self"]) fun _ _ _ _ _ _ us hl => match us, hl with | [_], _ => rfl
  have b_g2 := F_g2.binds (ps := ["self"]) fun _ _ _ _ _ _ us hl => match us, hl with | [_], _ => rfl
  have b_g3 := F_g3.binds (ps := ["self"]) fun _ _ _ _ _ _ us hl => match us, hl with | [_], _ => rfl
  have b_g4 := F_g4.binds (ps := ["self"]) fun _ _ _ _ _ _ us hl => match us, hl with | [_], _ => rfl
  have b_g5 := F_g5.binds (ps := ["self"]) fun _ _ _ _ _ _ us hl => match us, hl with | [_], _ => rfl
  have b_g6 := F_g6.binds (ps := ["self"]) fun _ _ _ _ _ _ us hl => match us, hl with | [_], _ => rfl
  have b_g7 := F_g7.binds (ps := ["self"]) fun _ _ _ _ _ _ us hl => match us, hl with | [_], _ => rfl
  have b_taken := F_taken.binds (ps := ["_law_row", "_law_many"]) fun _ _ _ _ _ _ us hl => match us, hl with | [_, _], _ => rfl
  have b_parts := F_parts.binds (ps := ["_law_row"]) fun _ _ _ _ _ _ us hl => match us, hl with | [_], _ => rfl
  have g_parts : GFn K mg "_law_parts" f_parts _ ["_law_row"] := ⟨PySem.W.mg_of X G a_parts, k_parts, b_parts⟩
  have b_made := F_made.binds (ps := ["_law_told"]) fun _ _ _ _ _ _ us hl => match us, hl with | [_], _ => rfl
  have g_made : GFn K mg "_law_made" f_made _ ["_law_told"] := ⟨PySem.W.mg_of X G a_made, k_made, b_made⟩
  have b_near := F_near.binds (ps := ["_law_row", "_law_told"]) fun _ _ _ _ _ _ us hl => match us, hl with | [_, _], _ => rfl
  have g_near : GFn K mg "_law_near" f_near _ ["_law_row", "_law_told"] := ⟨PySem.W.mg_of X G a_near, k_near, b_near⟩
  have b_refused := F_refused.binds (ps := ["_law_told"]) fun _ _ _ _ _ _ us hl => match us, hl with | [_], _ => rfl
  have g_refused : GFn K mg "_law_refused" f_refused _ ["_law_told"] := ⟨PySem.W.mg_of X G a_refused, k_refused, b_refused⟩
  have b_partsR := F_partsR.binds (ps := ["reader"]) fun _ _ _ _ _ _ us hl => match us, hl with | [_], _ => rfl
  have g_partsR : GFn K mg "parts" f_partsR _ ["reader"] := ⟨PySem.W.mg_of X G a_partsR, k_partsR, b_partsR⟩
  have b_chk := F_chk.binds (ps := ["value"]) fun _ _ _ _ _ _ us hl => match us, hl with | [_], _ => rfl
  have g_chk : GFn K mg "check_reader" f_chk _ ["value"] := ⟨PySem.W.mg_of X G a_chk, k_chk, b_chk⟩
  have b_first := F_first.binds (ps := ["values"]) fun _ _ _ _ _ _ us hl => match us, hl with | [_], _ => rfl
  have g_first : GFn K mg "_first_wrong" f_first _ ["values"] := ⟨PySem.W.mg_of X G a_first, k_first, b_first⟩
  have b_among := F_among.binds (ps := ["value", "choices"]) fun _ _ _ _ _ _ us hl => match us, hl with | [_, _], _ => rfl
  have g_among : GFn K mg "_is_among" f_among _ ["value", "choices"] := ⟨PySem.W.mg_of X G a_among, k_among, b_among⟩
  have b_clash := F_clash.binds (ps := ["name", "values"]) fun _ _ _ _ _ _ us hl => match us, hl with | [_, _], _ => rfl
  have g_clash : GFn K mg "_clashes" f_clash _ ["name", "values"] := ⟨PySem.W.mg_of X G a_clash, k_clash, b_clash⟩
  have e := hfa.symm.trans (PySem.W.mg_of X G a_law)
  cases e
  have chk : ChK K c0 := ⟨fun i => [q0, q1, q2, q3, q4, q5, q6, q7].getD i 0, fun i => [r_0, r_1, r_2, r_3, r_4, r_5, r_6, r_7].getD i 0, wt_mk c_0 (by simp) (.cons (rfl) (.cons (rfl) (.cons (rfl) (.cons (rfl) (.cons (rfl) (.cons (rfl) (.cons (rfl) (.cons (rfl) (.nil))))))))), fun i hi => by
    rcases lt8 hi with rfl | rfl | rfl | rfl | rfl | rfl | rfl | rfl
    · exact ⟨wt_mk cq0 (by simp) (.cons ⟨_, rfl⟩ (.cons rfl .nil)), wt_mk cr0 (by simp) (.cons (⟨_, rfl⟩) (.cons (⟨_, rfl⟩) (.cons (⟨_, rfl⟩) (.nil))))⟩
    · exact ⟨wt_mk cq1 (by simp) (.cons ⟨_, rfl⟩ (.cons rfl .nil)), wt_mk cr1 (by simp) (.cons (⟨_, rfl⟩) (.cons (⟨_, rfl⟩) (.cons (⟨_, rfl⟩) (.cons (⟨_, rfl⟩) (.cons (⟨_, rfl⟩) (.nil))))))⟩
    · exact ⟨wt_mk cq2 (by simp) (.cons ⟨_, rfl⟩ (.cons rfl .nil)), wt_mk cr2 (by simp) (.cons (⟨_, rfl⟩) (.cons (⟨_, rfl⟩) (.nil)))⟩
    · exact ⟨wt_mk cq3 (by simp) (.cons ⟨_, rfl⟩ (.cons rfl .nil)), wt_mk cr3 (by simp) (.cons (rfl) (.cons (rfl) (.nil)))⟩
    · exact ⟨wt_mk cq4 (by simp) (.cons ⟨_, rfl⟩ (.cons rfl .nil)), wt_mk cr4 (by simp) (.cons (⟨_, rfl⟩) (.cons (⟨_, rfl⟩) (.cons (⟨_, rfl⟩) (.nil))))⟩
    · exact ⟨wt_mk cq5 (by simp) (.cons ⟨_, rfl⟩ (.cons rfl .nil)), wt_mk cr5 (by simp) (.cons (rfl) (.cons (rfl) (.nil)))⟩
    · exact ⟨wt_mk cq6 (by simp) (.cons ⟨_, rfl⟩ (.cons rfl .nil)), wt_mk cr6 (by simp) (.cons (rfl) (.cons (rfl) (.nil)))⟩
    · exact ⟨wt_mk cq7 (by simp) (.cons ⟨_, rfl⟩ (.cons rfl .nil)), wt_mk cr7 (by simp) (.cons (rfl) (.cons (rfl) (.nil)))⟩⟩
  have cl : Cls K C := ⟨pg, hd, po, sa⟩
  have tI : PySem.W.typeIn K (.ref C) = PySem.W.typeIn K (.ref C) := rfl
  have TR : TRd l.prog K mg C f_init C_BP fi_BP _ := ⟨cl, np, PySem.W.mg_of X G a_Rd, ⟨mk, a_init, i_init, kc⟩, b_init, B_BP⟩
  have ic : C8.InsC K C := ⟨cl, ha, hn, htk, hm, me⟩
  have TC : TCk K mg C C_BR := ⟨(PySem.W.mg_none_of X G n_isinstance), PySem.W.mg_of X G a_Rd, ic, np, E_BR⟩
  have TL : TLw K mg C C_BR := ⟨TC, (PySem.W.mg_none_of X G n_len), (PySem.W.mg_none_of X G n_list), (PySem.W.mg_none_of X G n_range), nfT, nfR, noT⟩
  refine ⟨PySem.W.fnOf "law" "law" (defArgs sLaw) (defBody sLaw) (defScope sLaw) .none kV_law dc_law pm_law an_law cd_law ct_law, fun s v => .of_eq rfl, fun base _ _ => ?_⟩
  have GT : FnOk l.prog w K mg base CX0 1 f_taken _ ["_law_row", "_law_many"] (spTaken K) := ok_taken F_taken ⟨(PySem.W.mg_none_of X G n_int), (PySem.W.mg_none_of X G n_len)⟩
  have gT : TkG K mg f_taken _ := ⟨PySem.W.mg_of X G a_taken, k_taken, b_taken⟩
  have GP := ok_parts (P := l.prog) (w := w) (base := base) F_parts GT gT
  have GA := ok_among (P := l.prog) (w := w) (base := base) F_among ⟨(PySem.W.mg_none_of X G n_isinstance), (PySem.W.mg_none_of X G n_bool), (PySem.W.mg_none_of X G n_any), (PySem.W.mg_none_of X G n_zip)⟩
  have GC := ok_clash (P := l.prog) (w := w) (K := K) (mg := mg) (base := base) F_clash
  have GF := ok_first (P := l.prog) (w := w) (base := base) F_first ⟨(PySem.W.mg_none_of X G n_zip), PySem.W.mg_of X G a_CH, chk⟩ GA g_among GC g_clash
  have GI := ok_init (P := l.prog) (w := w) (base := base) F_init TR GF g_first
  have GM := ok_made (P := l.prog) (w := w) (base := base) F_made TR GI
  have GK := ok_chk (P := l.prog) (w := w) (base := base) F_chk TC
  have GR := ok_partsR (P := l.prog) (w := w) (base := base) F_partsR TC GK g_chk
  have GE := ok_eq (P := l.prog) (w := w) (base := base) F_eq TC
  have GN := ok_near (P := l.prog) (w := w) (base := base) F_near ⟨(PySem.W.mg_none_of X G n_list), (PySem.W.mg_none_of X G n_tuple), (PySem.W.mg_none_of X G n_range)⟩ GT gT GP g_parts
  have GX := ok_refused (P := l.prog) (w := w) (base := base) F_refused TR te_BP GM g_made
  refine ok_law (P := l.prog) (w := w) (base := base) F_law TL ⟨GT, gT, GP, g_parts, GM, g_made, GN, g_near, GX, g_refused, GR, g_partsR, GE, a_eq, i_eq, b_eq⟩ ⟨⟨pa0, pb0, pc0, ⟨_, pd0⟩⟩, ok_prop F_g0 ⟨rfl, rfl, rfl, by decide +kernel, rfl, by decide +kernel, by decide +kernel⟩ rfl TC, b_g0⟩ ⟨⟨pa1, pb1, pc1, ⟨_, pd1⟩⟩, ok_prop F_g1 ⟨rfl, rfl, rfl, by decide +kernel, rfl, by decide +kernel, by decide +kernel⟩ rfl TC, b_g1⟩ ⟨⟨pa2, pb2, pc2, ⟨_, pd2⟩⟩, ok_prop F_g2 ⟨rfl, rfl, rfl, by decide +kernel, rfl, by decide +kernel, by decide +kernel⟩ rfl TC, b_g2⟩ ⟨⟨pa3, pb3, pc3, ⟨_, pd3⟩⟩, ok_prop F_g3 ⟨rfl, rfl, rfl, by decide +kernel, rfl, by decide +kernel, by decide +kernel⟩ rfl TC, b_g3⟩ ⟨⟨pa4, pb4, pc4, ⟨_, pd4⟩⟩, ok_prop F_g4 ⟨rfl, rfl, rfl, by decide +kernel, rfl, by decide +kernel, by decide +kernel⟩ rfl TC, b_g4⟩ ⟨⟨pa5, pb5, pc5, ⟨_, pd5⟩⟩, ok_prop F_g5 ⟨rfl, rfl, rfl, by decide +kernel, rfl, by decide +kernel, by decide +kernel⟩ rfl TC, b_g5⟩ ⟨⟨pa6, pb6, pc6, ⟨_, pd6⟩⟩, ok_prop F_g6 ⟨rfl, rfl, rfl, by decide +kernel, rfl, by decide +kernel, by decide +kernel⟩ rfl TC, b_g6⟩ ⟨⟨pa7, pb7, pc7, ⟨_, pd7⟩⟩, ok_prop F_g7 ⟨rfl, rfl, rfl, by decide +kernel, rfl, by decide +kernel, by decide +kernel⟩ rfl TC, b_g7⟩

theorem walk {l : PySem.W.OpenLaw} {q : Program} {loose : List Str} {XP : (Str → Option Value) → Heap → Prop} {YP : World → Heap → Prop} {d : DefRec} {K : Params → PySem.W.Frag} (hn : l.most = some 63) (hdf : d.params.defaults = [])
    (hY : ∀ (w : World) (h : Heap), YP w h → (K w.params).In h)
    (F : ∀ (w : World) (mg : Str → Option Value) (fa : Addr) (h : Heap), (K w.params).In h → h.Ns mainGlobals mg → mg d.name = some (.ref fa) →
      ∃ fd : FuncData, (∀ (s : Shared) (u : Value), BindsTo s fd ⟨[u], []⟩ [("_law_script", u)]) ∧ ∀ base : Heap, (K w.params).In base → base.Ns mainGlobals mg → FnOk l.prog w (K w.params) mg base CX0 9 fa fd ["_law_script"] (spLaw (K w.params))) :
    PySem.W.WalkO q loose XP YP l.row.toRowW d [] (fun f vs => PySem.call f vs) :=
  L2.walk_of (n := 63) (k := 9) (x := "_law_script") (CX := fun _ => CX0) (sp := fun w => spLaw (K w.params)) hn (by decide) hdf ⟨rfl, by decide, by decide⟩ hY F (fun _ _ a ns _ hO hS => ⟨a, ns, rfl, ScL.of hO hS, fun _ => rfl⟩) fun _ _ _ _ _ z => z
end Ra

open PySem PySem.W PyProof.Rows
set_option maxRecDepth 100000 in
set_option maxHeartbeats 0 in
theorem PySem.Challenge.cw_readersapart_k01_readers_refused_holds : PySem.Challenge.rw_readersapart_k01_readers_refused.Holds := by
  w_on; o_law; k_head; (case hw => w_witness2)
  k_fill
  refine Ra.walk (l := PySem.Challenge.rw_readersapart_k01_readers_refused) rfl rfl (fun w h Y => PySem.W.kIn_of Y) ?F
  case F =>
    intro w mg fa h KX G hmg
    refine' Ra.all_mk KX G hmg (by decide +kernel) ?a_Rd ?a_RE ?n_int ?n_len ?n_isinstance ?n_bool ?n_any ?n_zip ?n_range ?n_list ?n_tuple ?n_super ?ops ?a_BP ?x_BP ?al_BP ?sa_BP ?ga_BP ?gg_BP ?nn_BP ?ii_BP ?ti_BP ?kc_BP ?eb_BP ?ev_BP ?et_BP ?hd_BP ?ow_BP ?ic_BP ?se_BP ?l_BP ?cd_BP ?lc_BP ?v2_BP ?fi_BPe ?lz_BP ?a_BR ?kc_BR ?q_BR ?eb_BR ?et_BR ?pg ?hd ?po ?sa ?mk ?kc ?np ?ha ?hn ?htk ?hm ?me ?nfT ?nfR ?noT ?a_init ?i_init ?l_init ?c_init ?k_init ?a_eq ?i_eq ?l_eq ?c_eq ?k_eq ?pa0 ?pb0 ?pc0 ?pd0 ?l_g0 ?c_g0 ?k_g0 ?pa1 ?pb1 ?pc1 ?pd1 ?l_g1 ?c_g1 ?k_g1 ?pa2 ?pb2 ?pc2 ?pd2 ?l_g2 ?c_g2 ?k_g2 ?pa3 ?pb3 ?pc3 ?pd3 ?l_g3 ?c_g3 ?k_g3 ?pa4 ?pb4 ?pc4 ?pd4 ?l_g4 ?c_g4 ?k_g4 ?pa5 ?pb5 ?pc5 ?pd5 ?l_g5 ?c_g5 ?k_g5 ?pa6 ?pb6 ?pc6 ?pd6 ?l_g6 ?c_g6 ?k_g6 ?pa7 ?pb7 ?pc7 ?pd7 ?l_g7 ?c_g7 ?k_g7 ?a_CH ?c_0 ?cq0 ?cr0 ?cq1 ?cr1 ?cq2 ?cr2 ?cq3 ?cr3 ?cq4 ?cr4 ?cq5 ?cr5 ?cq6 ?cr6 ?cq7 ?cr7 ?a_taken ?l_taken ?c_taken ?k_taken ?a_parts ?l_parts ?c_parts ?k_parts ?a_made ?l_made ?c_made ?k_made ?a_near ?l_near ?c_near ?k_near ?a_refused ?l_refused ?c_refused ?k_refused ?a_partsR ?l_partsR ?c_partsR ?k_partsR ?a_chk ?l_chk ?c_chk ?k_chk ?a_first ?l_first ?c_first ?k_first ?a_among ?l_among ?c_among ?k_among ?a_clash ?l_clash ?c_clash ?k_clash ?a_law ?l_law ?c_law ?k_law
    (case a_Rd => k_is)
    (case a_RE => k_is)
    (case n_int => k_is)
    (case n_len => k_is)
    (case n_isinstance => k_is)
    (case n_bool => k_is)
    (case n_any => k_is)
    (case n_zip => k_is)
    (case n_range => k_is)
    (case n_list => k_is)
    (case n_tuple => k_is)
    (case n_super => k_is)
    (case ops => k_is)
    (case a_BP => k_is)
    (case x_BP => k_is)
    (case al_BP => kernel_rfl)
    (case sa_BP => k_is)
    (case ga_BP => k_is)
    (case gg_BP => k_is)
    (case nn_BP => k_is)
    (case ii_BP => k_is)
    (case ti_BP => k_is)
    (case kc_BP => k_is)
    (case eb_BP => k_is)
    (case ev_BP => k_is)
    (case et_BP => k_is)
    (case hd_BP => k_is)
    (case ow_BP => k_is)
    (case ic_BP => k_is)
    (case se_BP => (first | rfl | k_is))
    (case l_BP => k_is)
    (case cd_BP => k_is)
    (case lc_BP => k_is)
    (case v2_BP => (exact rfl))
    (case fi_BPe => (first | rfl | decide +kernel))
    (case lz_BP => k_is)
    (case a_BR => k_is)
    (case kc_BR => k_is)
    (case q_BR => k_exc)
    (case eb_BR => k_is)
    (case et_BR => k_is)
    (case pg => k_is)
    (case hd => k_is)
    (case po => k_is)
    (case sa => k_is)
    (case mk => k_is)
    (case kc => k_is)
    (case np => k_is)
    (case ha => k_is)
    (case hn => k_is)
    (case htk => k_is)
    (case hm => k_is)
    (case me => kernel_rfl)
    (case nfT => k_is)
    (case nfR => k_is)
    (case noT => kernel_rfl)
    (case a_init => k_is)
    (case i_init => k_is)
    (case l_init => k_is)
    (case c_init => k_is)
    (case k_init => k_is)
    (case a_eq => k_is)
    (case i_eq => k_is)
    (case l_eq => k_is)
    (case c_eq => k_is)
    (case k_eq => k_is)
    (case pa0 => k_is)
    (case pb0 => k_is)
    (case pc0 => k_is)
    (case pd0 => k_is)
    (case l_g0 => k_is)
    (case c_g0 => k_is)
    (case k_g0 => k_is)
    (case pa1 => k_is)
    (case pb1 => k_is)
    (case pc1 => k_is)
    (case pd1 => k_is)
    (case l_g1 => k_is)
    (case c_g1 => k_is)
    (case k_g1 => k_is)
    (case pa2 => k_is)
    (case pb2 => k_is)
    (case pc2 => k_is)
    (case pd2 => k_is)
    (case l_g2 => k_is)
    (case c_g2 => k_is)
    (case k_g2 => k_is)
    (case pa3 => k_is)
    (case pb3 => k_is)
    (case pc3 => k_is)
    (case pd3 => k_is)
    (case l_g3 => k_is)
    (case c_g3 => k_is)
    (case k_g3 => k_is)
    (case pa4 => k_is)
    (case pb4 => k_is)
    (case pc4 => k_is)
    (case pd4 => k_is)
    (case l_g4 => k_is)
    (case c_g4 => k_is)
    (case k_g4 => k_is)
    (case pa5 => k_is)
    (case pb5 => k_is)
    (case pc5 => k_is)
    (case pd5 => k_is)
    (case l_g5 => k_is)
    (case c_g5 => k_is)
    (case k_g5 => k_is)
    (case pa6 => k_is)
    (case pb6 => k_is)
    (case pc6 => k_is)
    (case pd6 => k_is)
    (case l_g6 => k_is)
    (case c_g6 => k_is)
    (case k_g6 => k_is)
    (case pa7 => k_is)
    (case pb7 => k_is)
    (case pc7 => k_is)
    (case pd7 => k_is)
    (case l_g7 => k_is)
    (case c_g7 => k_is)
    (case k_g7 => k_is)
    (case a_CH => k_is)
    (case c_0 => k_is)
    (case cq0 => k_is)
    (case cr0 => k_is)
    (case cq1 => k_is)
    (case cr1 => k_is)
    (case cq2 => k_is)
    (case cr2 => k_is)
    (case cq3 => k_is)
    (case cr3 => k_is)
    (case cq4 => k_is)
    (case cr4 => k_is)
    (case cq5 => k_is)
    (case cr5 => k_is)
    (case cq6 => k_is)
    (case cr6 => k_is)
    (case cq7 => k_is)
    (case cr7 => k_is)
    (case a_taken => k_is)
    (case l_taken => k_is)
    (case c_taken => k_is)
    (case k_taken => k_is)
    (case a_parts => k_is)
    (case l_parts => k_is)
    (case c_parts => k_is)
    (case k_parts => k_is)
    (case a_made => k_is)
    (case l_made => k_is)
    (case c_made => k_is)
    (case k_made => k_is)
    (case a_near => k_is)
    (case l_near => k_is)
    (case c_near => k_is)
    (case k_near => k_is)
    (case a_refused => k_is)
    (case l_refused => k_is)
    (case c_refused => k_is)
    (case k_refused => k_is)
    (case a_partsR => k_is)
    (case l_partsR => k_is)
    (case c_partsR => k_is)
    (case k_partsR => k_is)
    (case a_chk => k_is)
    (case l_chk => k_is)
    (case c_chk => k_is)
    (case k_chk => k_is)
    (case a_first => k_is)
    (case l_first => k_is)
    (case c_first => k_is)
    (case k_first => k_is)
    (case a_among => k_is)
    (case l_among => k_is)
    (case c_among => k_is)
    (case k_among => k_is)
    (case a_clash => k_is)
    (case l_clash => k_is)
    (case c_clash => k_is)
    (case k_clash => k_is)
    (case a_law => k_is)
    (case l_law => k_is)
    (case c_law => k_is)
    (case k_law => k_is)
