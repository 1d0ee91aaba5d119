import PyProof.Rows.All
import Wide.All
import OpenK.AllK
import Wide.FinOn
import KE.KExcSuper
import HandS.Base
import HandS.Call
import HandS.List
import HandS.Ends
import HandS.Exc
import HandS.ExcInit
import HandS.Words
import HandS.Lambda
import HandS.ExcField
import KE.GoesMore
import HandS.Iter
import HandS.Walk
import HandS.Text
import HandS.ExcCtx
import HandS.WordsExc
import HandS.RaiseMore
import HandS.ForMost
import HandS.ForExc
import KE.KUnpackStar
import KE.IntTextLaws
import KE.KIntText
import PyProof.Rows.ReprOcc
import Flt.Len
import PyProof.Rows.StrFirst
import PyProof.StrLawsIn
import HandS.SortKw
import KE.DataMinMax
import KE.DatumOrd
import HandS.Strs
import PyProof.TupleOfSeq
import KE.SortData
import HandS.Sort
import HandS.Deep
import HandS.IsInst
import HandS.OwnEq
import HandS.FStr
import KE.RegKCallOwn
import KE.KFmtOwn
import PyProof.ReprReads
import PyProof.ReprRoads
import PyProof.ReprLen
import PyProof.Rows.ReprItems
import PyProof.ReprText
import HandS.Comp
import HandS.HotCalls
import HandS.ExcInitHot
import HandS.EndTab
import HandS.Flow
import HandS.Wide
import HandS.Defaults
import HandS.MakeKw
import HandS.Style
import HandS.TupAny
import HandS.CallLocal
import HandS.Zip
import HandS.More
import HandS.SuiteRaise
import HandS.RaiseFrom
import KE.RegKSuper
import PySem.Challenge.RW_pulsewright_k46_rules_as_texts
set_option Elab.async false
set_option linter.all false
set_option maxRecDepth 100000
set_option maxHeartbeats 4000000
namespace Pw
open PySem PySem.Spec PyProof.Rows L2

abbrev supScope (f : Str) : Scope := { kind := .function, names := [("self", .local), (f, .local), ("__class__", .free), ("super", .globalImplicit)], isGenerator := false, isCoroutine := false, more := [] }

/-- the body of such an __init__: super().__init__(msg); self.f = f -/
abbrev supBody (msg : Expr) (f : Str) (p0 p1 p2 p3 p4 p5 p6 p7 p8 : Pos) : List Stmt :=
  [.Expr (.Call (.Attribute (.Call (.Name "super" p0) [] [] p1) "__init__" p2) [msg] [] p3) p4,
   .Assign [.Attribute (.Name "self" p5) f p6] (.Name f p7) p8]

/-- its context -/
def supCx (P : Program) (w : World) (K : PySem.W.Frag) (mg : Str → Option Value) (base : Heap) (f : Str) (qual : Str) (fI cda cc : Addr) (A : Around) (outer : List Env) (s : Shared) (H : Hp) : Cx where
  prog := P
  w := w
  K := K
  mg := mg
  base := base
  A := A.deeper (PySem.W.ksEnv qual (supScope f) s.heap.objs.size fI (.ref cda) cc)
  N := ["self", f]
  s_0 := s
  H_0 := H
  env := PySem.W.ksEnv qual (supScope f) s.heap.objs.size fI (.ref cda) cc
  outer := outer
  stack := PySem.W.ksEnv qual (supScope f) s.heap.objs.size fI (.ref cda) cc :: outer
  ex := []
  fn := fun _ => false
  calm := true
  pn := []
  xe := fun _ _ => False

/-- what the written part says of the class at C, its __init__ at fI, the cell at cc, the code object at cda -/
structure SupC (P : Program) (K : PySem.W.Frag) (mg : Str → Option Value) (C fI cc cda : Addr) (f : Str) : Prop where
  oex : OexC K C
  noF : PySem.W.findIn K (.ref C) f = some none
  sub : PySem.W.mroIn K C (.ref C) = some true
  subVE : PySem.W.subIn K (.ref C) (.type "ValueError") = some true
  sup : PySem.W.ks_superIn K C C "__init__" = some (some (.builtin "ValueError.__init__"))
  op : PySem.W.nsIn K cStatics "thirdparty.any" = some none
  code : ∃ ccl cdd vs ccs file tf, K.lookup cda = some ⟨ccl, cdd, .fields vs, ccs⟩ ∧ vs[2]? = some (.str file tf) ∧ ((P.main.file : Str) == file) = true
  cell : ∃ cl cld csl, K.lookup cc = some ⟨cl, cld, .cell (some (.ref C)), csl⟩
  mgS : mg "super" = none
  topS : (P.main.scope.names.lookup ("super" : Str)).isSome = false

/-- the promise of the __init__: the new exception's dict holds the field -/
def spSup (C : Addr) (f : Str) (Okv : V → Prop) : Sp := fun vs H Q _ => ∃ (a : Addr) (v : V), vs = [.ref a, v] ∧ Okv v ∧ H a = some (exo a C none) ∧
  ∀ dx, H dx = none → dx ≠ a → Q .non (upd (upd H dx (exd dx [(f, v)])) a (exo a C (some dx)))

section
variable {P : Program} {w : World} {K : PySem.W.Frag} {mg : Str → Option Value} {base : Heap} {f qual : Str} {C fI cda cc : Addr}
theorem sup_start {A : Around} {outer : List Env} {s : Shared} {H : Hp} {h₁ : Heap} {a : Addr} {v : V} {u : Value} {tk : Nat} (hfs : (f == ("self" : Str)) = false) (hfc : (f == ("__class__" : Str)) = false) (T : SupC P K mg C fI cc cda f) (hd : A.handled = none) (e0 : Env0 P w K mg base A outer s H) (rv : RelV v u)
    (hns : h₁.Ns s.heap.objs.size (fun x => ([("self", Value.ref a), (f, u)] : List (Str × Value)).reverse.lookup x)) (kp : ∀ b o, s.heap.get? b = some o → h₁.get? b = some o) :
    Inv (supCx P w K mg base f qual fI cda cc A outer s H) [] [some (.ref a), some v] H { s with heap := h₁, toks := tk } := by
  obtain ⟨cl, cld, csl, hcell⟩ := T.cell
  have hcb : base.get? cc = some ⟨cl, cld, .cell (some (.ref C)), csl⟩ := e0.mod.kin _ _ hcell
  have hcs := e0.bs _ _ hcb
  have noA : ∀ b : Addr, b ∉ (supCx P w K mg base f qual fI cda cc A outer s H).ex := fun b z => absurd (show b ∈ ([] : List Addr) from z) (by simp)
  have only : ∀ {y : Str} {c : Addr}, ([("__class__", cc)] : List (Str × Addr)).lookup y = some c → y = "__class__" ∧ c = cc := fun {y c} e => by
    by_cases hy : y = "__class__"
    · subst hy
      have e2 : some cc = some c := e
      exact ⟨rfl, (Option.some.inj e2).symm⟩
    · have : (y == ("__class__" : Str)) = false := by simpa using hy
      simp [List.lookup, this] at e
  refine ⟨⟨e0.mod, rfl, rfl, rfl, Nat.le_refl _, fun y z c e1 e2 => ?_, fun y hy => ?_, fun y c z _ => ?_, fun _ => hd, Around.frames_deeper e0.frames, .inr ⟨rfl, rfl⟩, fun b z => absurd z (noA b), e0.bs, e0.bsz, fun b _ _ => noA b,
      fun b z => absurd z (noA b), e0.funs, e0.frf⟩,
    rfl, e0.bare, Un.kept kp, ⟨_, hns, fun i y v' e1 e2 e3 => ?_⟩, fun y c e => ?_, e0.hok.fresh (Nat.le_refl _), fun y c e => ?_, fun q hq => absurd (show q ∈ ([] : List (Addr × Obj)) ++ [] from hq) (by simp), e0.hok.kept kp, rfl⟩
  · exact (only e1).1.trans (only e2).1.symm
  · have hy : (supScope f).names.lookup y = some .cell ∨ (supScope f).names.lookup y = some .free := hy
    have : y = "__class__" := by
      by_cases h1 : y = "self"
      · subst h1
        rcases hy with h | h <;> cases h
      · by_cases h2 : y = f
        · subst h2
          have q1 : (y == ("self" : Str)) = false := hfs
          simp [List.lookup, q1] at hy
        · by_cases h3 : y = "__class__"
          · exact h3
          · have q1 : (y == ("self" : Str)) = false := by simpa using h1
            have q2 : (y == f) = false := by simpa using h2
            have q3 : (y == ("__class__" : Str)) = false := by simpa using h3
            by_cases h4 : y = "super"
            · subst h4
              simp [List.lookup, q1, q2, q3] at hy
            · have q4 : (y == ("super" : Str)) = false := by simpa using h4
              simp [List.lookup, q1, q2, q3, q4] at hy
    subst this
    exact ⟨cc, rfl⟩
  · have z : false = true := z
    cases z
  · match i, e1, e2 with
    | 0, e1, e2 =>
      have e1 : "self" = y := Option.some.inj e1
      have e2 : V.ref a = v' := Option.some.inj (Option.some.inj e2)
      subst e1
      subst e2
      refine ⟨_, rfl, .inl ⟨rfl, ?_⟩⟩
      have q : (("self" : Str) == f) = false := by
        have := hfs
        rw [beq_eq_false_iff_ne] at this ⊢
        exact this.symm
      simp [List.lookup, q]
    | 1, e1, e2 =>
      have e1 : f = y := Option.some.inj e1
      have e2 : v = v' := Option.some.inj (Option.some.inj e2)
      subst e1
      subst e2
      refine ⟨_, rv, .inl ⟨?_, by simp [List.lookup]⟩⟩
      show (supScope f).names.lookup f = some .local
      simp [List.lookup, hfs]
    | n + 2, e1, e2 => simp [supCx] at e1
  · obtain ⟨_, rfl⟩ := only e
    exact ⟨_, _, kp _ _ hcs.1, rfl⟩
  · obtain ⟨_, rfl⟩ := only e
    exact hcs.2

theorem fn_sup {k : Nat} {CX : CXT} {Okv : V → Prop} {name : Str} {ap : Arguments} {mv : List Expr} {pj : Pos} {dV kV doc pm ct oc : Value} {an od : Option Addr} {osl : Array (Option Value)} {p0 p1 p2 p3 p4 p5 p6 p7 p8 : Pos}
    (hfs : (f == ("self" : Str)) = false) (hfc : (f == ("__class__" : Str)) = false) (hfu : (f == ("super" : Str)) = false) (hfd : (f == ("__debug__" : Str)) = false) (hfcd : (f == ("__classdict__" : Str)) = false) (T : SupC P K mg C fI cc cda f)
    (hap : (ap.posonlyargs ++ ap.args).head?.map (·.arg) = some ("self" : Str))
    (lk : K.lookup fI = some ⟨oc, od, .func (PySem.W.ksFn name qual ap (supBody (.JoinedStr mv pj) f p0 p1 p2 p3 p4 p5 p6 p7 p8) (supScope f) dV kV doc pm an (.ref cda) ct cc), osl⟩) (hcd : PySem.W.codeIn K (.ref cda) qual = true)
    (hmsg : ∀ X : Cx, X.N = (["self", f] : List Str) → X.env.scope = supScope f → ∃ tm : TE, PE X (.JoinedStr mv pj) tm ∧ ∀ (a : Addr) (v : V) (H : Hp) (Q : VK), Okv v → (∀ z : Str, Q (.str z) H) → tm [some (.ref a), some v] H Q)
    {pl : Sem Bool} (he : ∀ env : Env, eval (.Call (.Attribute (.Call (.Name "super" p0) [] [] p1) "__init__" p2) [.JoinedStr mv pj] [] p3) env = (do
      let ov ← attributeBase (.Call (.Name "super" p0) [] [] p1) "__init__" env (eval (.Call (.Name "super" p0) [] [] p1) env)
      standAt p2.atName
      let (f, first) ← holding [ov] (getMethod ov "__init__" pl)
      callWith p3 f first (backTo p3 (starEach [.JoinedStr mv pj] env)) [])) :
    FnOk P w K mg base CX (k + 1) fI (PySem.W.ksFn name qual ap (supBody (.JoinedStr mv pj) f p0 p1 p2 p3 p4 p5 p6 p7 p8) (supScope f) dV kV doc pm an (.ref cda) ct cc) ["self", f] (spSup C f Okv) := by
  refine ⟨fun vs H Q E h => ?_, fun A outer s H args us vs Q E hr e0 hb r hsp => ?_⟩
  · obtain ⟨a, v, rfl, _⟩ := h
    rfl
  obtain ⟨a, v, rfl, hv, ha, q⟩ := hsp
  obtain ⟨u1, rfl, rv⟩ : ∃ u1, us = [.ref a, u1] ∧ RelV v u1 := by
    cases r with
    | cons r0 r1 =>
      cases r1 with
      | cons r1 r2 =>
        cases r2
        cases r0
        exact ⟨_, rfl, r1⟩
  have KX : K.In s.heap := e0.mod.kin.keeps fun b o e => (e0.bs b o e).1
  have lim : s.heap.NoLimit := e0.mod.nolimit.keeps fun b o e => (e0.bs b o e).1
  have hfs' : (f == ("self" : Str)) = false := hfs
  refine PySem.ks_codeAny_call_defAt (fd := PySem.W.ksFn name qual ap (supBody (.JoinedStr mv pj) f p0 p1 p2 p3 p4 p5 p6 p7 p8) (supScope f) dV kV doc pm an (.ref cda) ct cc) (body := supBody (.JoinedStr mv pj) f p0 p1 p2 p3 p4 p5 p6 p7 p8) (binds := [("self", .ref a), (f, u1)])
    hr.depth (KX _ _ lk) rfl lim (PySem.W.codeRec_of KX hcd) rfl hb ?_ ?_ (fun h₁ hns kp => ?_) rfl rfl rfl
  · intro x hx
    have hx : x ∈ (supScope f).names := hx
    simp at hx
    rcases hx with rfl | rfl | rfl | rfl <;> simp
  · intro x hx
    simp at hx
    show (supScope f).names.lookup x.1 = some .local
    rcases hx with rfl | rfl
    · rfl
    · simp [List.lookup, hfs']
  have I : Inv (supCx P w K mg base f qual fI cda cc A outer s H) [] [some (.ref a), some v] H { s with heap := h₁, toks := s.toks + 2 } := sup_start hfs hfc T hr.hd e0 rv hns kp
  have KX1 : K.In h₁ := I.kIn
  obtain ⟨t1, hoe⟩ := exo_at I.hok ha
  obtain ⟨nm, qn, N, bs, bm, sn, sub, ab, col, dd, k0, k1, k2, k3, k5, hC, hbm⟩ := T.oex.cls
  have hcl : PySem.W.clsIn K C = some { name := nm, bases := bs, mro := .ref C :: bm, ns := N, qualname := qn, hasDict := true, slotNames := sn, subclasses := sub, abstract := ab, collection := col, hasDel := false } := by unfold PySem.W.clsIn; rw [hC] <;> rfl
  have hC1 := KX1 _ _ hC
  obtain ⟨ccl, cdd, vs, ccs, file, tf, hcode, hvs, hfile⟩ := T.code
  obtain ⟨cl, cld, csl, hcell⟩ := T.cell
  obtain ⟨ar, har, hara⟩ : ∃ ar : Arg, (ap.posonlyargs ++ ap.args).head? = some ar ∧ ar.arg = "self" := by
    cases e : (ap.posonlyargs ++ ap.args).head? with
    | none =>
      rw [e] at hap
      cases hap
    | some ar =>
      rw [e] at hap
      exact ⟨ar, rfl, Option.some.inj hap⟩
  have hInst : PySem.W.InstAt h₁ a { cls := .ref C, dict := none, data := .fields #[.ref t1, .none, .none, .none, .bool false, .none] } C none := ⟨hoe, rfl, rfl, trivial⟩
  have hxC : a ≠ C := PySem.W.ks_ne KX1 hInst hcl
  have sy : ∀ {x y : Str}, (x == y) = false → (y == x) = false := fun {x y} h => by
    rw [beq_eq_false_iff_ne] at h ⊢
    exact h.symm
  have l_super : (supScope f).names.lookup ("super" : Str) = some .globalImplicit := by
    have q1 := sy hfu
    have q2 : (("super" : Str) == ("self" : Str)) = false := by decide
    have q3 : (("super" : Str) == ("__class__" : Str)) = false := by decide
    simp [List.lookup, q1, q2, q3]
  have l_class : (supScope f).names.lookup ("__class__" : Str) = some .free := by
    have q1 := sy hfc
    have q2 : (("__class__" : Str) == ("self" : Str)) = false := by decide
    simp [List.lookup, q1, q2]
  have l_f : (supScope f).names.lookup f = some .local := by simp [List.lookup, hfs']
  obtain ⟨mb, hb1, hb2⟩ := e0.mod.blt
  refine PySem.ks_wpAt_execs_cons (PySem.ks_wpAt_Expr_any (PySem.ks_wpAt_MethodCall (pl := pl) ?_ (he _)) rfl rfl)
  refine PySem.ks_wpAt_super_base (env := PySem.W.ksEnv qual (supScope f) s.heap.objs.size fI (.ref cda) cc) ?ks ?kc rfl rfl (KX1 _ _ lk) rfl har rfl (KX1 _ _ hcode) rfl hvs hfile T.topS ?_
  case ks => exact l_super
  case kc => exact l_class
  refine PySem.W.ks_loadName_global rfl l_super (PySem.Calls.loadGlobal_builtin (env := PySem.W.ksEnv qual (supScope f) s.heap.objs.size fI (.ref cda) cc) (I.mod.glob.keeps I.bk) T.mgS (hb1.keeps I.bk) ((hb2 _ (by decide)).trans PyProof.Rows.Boot.«super») ⟨rfl, ?_⟩)
  refine wpAny_loadName_free rfl l_class rfl ⟨_, KX1 _ _ hcell, rfl⟩ ?_
  rw [hara]
  refine wpAny_loadName_local rfl rfl hns (v := .ref a) ?_ ?_
  · have q := sy hfs
    simp [List.lookup, q]
  refine PySem.ks_wpAny_isType_cls hC1 rfl ⟨rfl, ?_⟩
  refine PySem.ks_wpAny_call_super hC1 rfl hoe rfl (fun c e => by cases e) (PySem.W.looks_mroIn KX1 T.sub) (fun h2 hso k2 => ?_)
  have I2 := I.kept (h' := h2) (t' := s.toks + 2) k2
  have KX2 : K.In h2 := I2.kIn
  have hInst2 : PySem.W.InstAt h2 a { cls := .ref C, dict := none, data := .fields #[.ref t1, .none, .none, .none, .bool false, .none] } C none := ⟨k2 _ _ hoe, rfl, rfl, trivial⟩
  refine PySem.W.kxs_getMethod PySem.W.kxs_ValueError hso (PySem.W.looks_opaque KX2 T.op) (l₀ := .ref C :: bm) ?mro rfl KX2 ?along (hInst2.type.andThen (PySem.W.looks_subIn KX2 T.subVE)) hxC rfl ?_
  case mro => exact fun A Q E s k q => wpAny_bind ((PySem.W.looks_clsIn KX2 hcl) A _ E s k (wpAny_pure q))
  case along =>
    have z := T.sup
    unfold PySem.W.ks_superIn at z
    rw [hcl] at z
    exact z
  have I3 := I2.kept (h' := h2.push (PySem.W.kxs_mw "ValueError.__init__" a)) (t' := s.toks + 2 + 1) (fun b o e => Heap.get?_push_of_some _ e)
  have hsz : H h2.objs.size = none := I2.hok.fresh (Nat.le_refl _)
  have I4 := I3.pins_of (pins' := [(h2.objs.size, PySem.W.kxs_mw "ValueError.__init__" a)]) (fun p hp => by
    obtain rfl : p = (h2.objs.size, PySem.W.kxs_mw "ValueError.__init__" a) := by simpa using hp
    exact ⟨Heap.get?_push_at rfl rfl, hsz, Nat.ne_of_gt I2.lt, I2.nofs (Nat.le_refl _), fun v z => by cases z⟩)
  obtain ⟨tm, hpe, htm⟩ := hmsg (supCx P w K mg base f qual fI cda cc A outer s H) rfl rfl
  refine PySem.W.kxs_callWith (i := "ValueError.__init__") (x := a) rfl (PySem.Calls.evalArgs_plain ?_)
  refine wpAny_mono ((pa_cons hpe pa_nil).run p3 _ _ _ H (fun vs H1 => (∃ z, vs = [.str z]) ∧ H1 = H) I4 (htm a v H _ hv fun z => ⟨⟨z, rfl⟩, rfl⟩)) (fun us s5 hq5 => ?_) (fun _ _ z => z.elim)
  obtain ⟨vs5, H1, I5, r5, ⟨z, ev⟩, eH⟩ := hq5
  rw [eH] at I5
  have hu := (I5.pin (h2.objs.size, PySem.W.kxs_mw "ValueError.__init__" a) (by simp)).1
  refine ⟨hu, ?_⟩
  obtain ⟨hp5, g5, d5, t5, os5⟩ := s5
  obtain ⟨t6, hoe5⟩ := exo_at I5.hok ha
  have hC5 := I5.kIn _ _ hC
  have hz5 : us.length ≤ sizeLine := by
    rw [← Paired.length r5, ev, sizeLine_eq]
    exact Nat.le_trans (Nat.le_refl 1) (by omega)
  refine wpAny_call (codeAny_of_tree ?_)
  show wpAny _ _ (callAny (.ref h2.objs.size) ⟨us, []⟩) _ _ _
  simp only [callAny]
  refine wpAny_bind (wpAny_load hu ?_)
  simp only [PySem.W.kxs_mw, show (Value.type "method-wrapper" == Value.type "method" || Value.type "method-wrapper" == Value.type "builtin_function_or_method" || Value.type "method-wrapper" == Value.type "method-wrapper") = true by decide, if_true]
  refine PySem.W.KFB.if_so (by decide) ?_
  refine wpAny_bind (PySem.W.check_bound_init PySem.F.excBase_ValueError.toExcCallFacts hC5 hoe5 rfl ?_)
  refine wpAny_bind (wpAny_pure (wpAny_pure ?_))
  refine ⟨plainId_quiet PySem.F.excBase_ValueError.init.plain _, codeAny_builtin PySem.F.excBase_ValueError.initEntry ?_⟩
  refine PySem.W.exc_init_tree (cls := .ref C) (t0 := t6) (dv := none) (c2 := .none) (c3 := .none) (b4 := .bool false) hoe5 hz5 (fun h6 k6 e6 _ => ?_)
  have J0 := I5.write (h' := h6) (t' := t5) (x := a) (e := a) (o := exo a C none) (by rw [ha]; exact True.intro) (.inl rfl) k6 ⟨_, e6⟩ (exo_ok e6)
  have eu : upd H a (exo a C none) = H := by
    funext b
    by_cases hb : b = a
    · rw [hb, upd_same, ha]
    · rw [upd_ne hb]
  rw [eu] at J0
  have J := J0.pins_of (pins' := []) (fun p hp => by cases hp)
  have ps : PSs (supCx P w K mg base f qual fI cda cc A outer s H) [.Assign [.Attribute (.Name "self" p5) f p6] (.Name f p7) p8] _ := pss_one (ps_ost (pe_var (i := 0) (x := "self") rfl (.inl rfl) (by decide) (by decide)) (pe_var (i := 1) (x := f) rfl (.inl l_f) hfd hfcd))
  show PySem.wpAt _ _ _ (execs [.Assign [.Attribute (.Name "self" p5) f p6] (.Name f p7) p8] _) _ _ _
  refine wpAt_of_wpAny (wpAny_mono (ps.run [] _ _ H { nx := fun _ H' => Q .non H', rt := fun _ _ => False } J ⟨v, rfl, .ref a, rfl, a, C, rfl, T.oex, T.noF, .inl ⟨ha, fun dx n ne => q dx n ne⟩⟩) (fun fl s' hs => ?_) (fun _ _ z => z.elim))
  cases fl with
  | next =>
    obtain ⟨σ', H', J', q'⟩ := hs
    exact ⟨.non, H', J'.os, J'.bare, J'.base, J'.hok, rfl, q'⟩
  | ret u =>
    obtain ⟨_, _, _, _, _, z⟩ := hs
    exact z.elim
  | brk =>
    obtain ⟨_, _, _, z⟩ := hs
    exact z.elim
  | cont =>
    obtain ⟨_, _, _, z⟩ := hs
    exact z.elim
end
end Pw
namespace Pw
open PySem PySem.Spec PyProof.Rows L2
/-- an own error class x with the field f: all that raising and catching it asks -/
structure ErrOk (P : Program) (w : World) (K : PySem.W.Frag) (mg : Str → Option Value) (base : Heap) (x f : Str) (C : Addr) (Okv : V → Prop) : Prop where
  oex : OexC K C
  mgC : mg x = some (.ref C)
  ini : ∃ (fI : Addr) (fd : FuncData), FnOk P w K mg base CX0 1 fI fd ["self", f] (spSup C f Okv) ∧ Binds K fd ["self", f] [] ∧ PySem.W.findIn K (.ref C) "__init__" = some (some (.ref fI)) ∧ PySem.W.typeIn K (.ref fI) = some (.type "function")
theorem pmk_err {X : Cx} {x f : Str} {C : Addr} {Okv : V → Prop} {e : Expr} {te : TE} {p pos : Pos} (T : ErrOk X.prog X.w X.K X.mg X.base x f C Okv) (hr : Room 2 X.A) (hg : Gl X x) (he : PE X e te) (hs : starEach [e] X.env = [(false, eval e X.env)] := by rfl)
    (hdb : (x == ("__debug__" : Str)) = false := by decide) : PMk X (.Call (.Name x p) [e] [] pos) (tMkO C (spSup C f Okv) [] (tCons te tNil)) := by
  obtain ⟨fI, fd, F1, hb, iC, tI⟩ := T.ini
  exact pmk_oex (dvs := []) T.oex iC tI F1 hr hb .nil (fun _ _ _ _ _ _ _ z => z.elim) hg T.mgC (pa_cons he pa_nil hs) hdb hs rfl
/-- the reading's end: the argument is v -/
theorem err_read {C : Addr} {f : Str} {Okv : V → Prop} {Q : XK} {v : V} {H1 : Hp} (hv : Okv v) (hq : ∀ d H2, Same H1 H2 → H1 d = none → H2 d = some (.xd [(f, v)]) → Q (.ref C) (some d) H2) :
    ([v] : List V).length ≤ 1000 ∧ ∀ a, H1 a = none → spSup C f Okv (.ref a :: ([v] ++ [])) (upd H1 a (exo a C none))
      (fun v2 H2 => v2 = .non ∧ ∃ (d : Addr) (fs : List (Str × V)), H2 a = some (exo a C (some d)) ∧ H2 d = some (exd d fs) ∧ H1 d = none ∧ Q (.ref C) (some d) (upd (del H2 a) d (.xd fs))) (fun _ _ _ => False) := by
  refine ⟨by show 1 ≤ 1000; decide, fun a na => ⟨a, v, rfl, hv, upd_same, fun dx nd ne => ⟨rfl, dx, [(f, v)], upd_same, ?_, ?_, ?_⟩⟩⟩
  · rw [upd_ne ne, upd_same]
  · rw [upd_ne ne] at nd
    exact nd
  · have nd1 : H1 dx = none := by
      rw [upd_ne ne] at nd
      exact nd
    refine hq dx _ (fun b o e => ?_) nd1 upd_same
    have b1 : b ≠ a := ne_of_none e na
    have b2 : b ≠ dx := ne_of_none e nd1
    rw [upd_ne b2, del_ne b1, upd_ne b1, upd_ne b2, upd_ne b1]
    exact e
end Pw

set_option Elab.async false
set_option linter.all false
set_option maxRecDepth 100000
set_option maxHeartbeats 2000000
namespace Pw
open PySem PySem.Spec PyProof.Rows L2
/-- the ends within a clause whose name is slot i -/
def asEnds (D : Ends) (i : Nat) : Ends := { nx := fun τ G => D.nx (τ.set i none) G, rt := D.rt, bk := fun τ G => D.bk (τ.set i none) G, ct := fun τ G => D.ct (τ.set i none) G }
/-- several clauses, each `except x as n`, n in slot i -/
def wAll (K : PySem.W.Frag) (i : Nat) (Wo : WX) (D : Ends) : List (Value × (Addr → Value → Option Addr → TS)) → WX
  | [] => Wo
  | (c, ts) :: r => fun cls dd τ G => ∃ b, PySem.W.exmOne K cls c = some b ∧ (b = true → ∀ a, G a = none → ts a cls dd (asEnds D i) (τ.set i (some (.ref a))) G) ∧ (b = false → wAll K i Wo D r cls dd τ G)
inductive AsOk (X : Cx) (n : Str) : List ExceptHandler → List (Value × (Addr → Value → Option Addr → TS)) → Prop
  | nil : AsOk X n [] []
  | cons {x : Str} {c : Value} {ts : Addr → Value → Option Addr → TS} {b0 : Stmt} {su : List Stmt} {p1 p2 : Pos} {hs : List ExceptHandler} {l : List (Value × (Addr → Value → Option Addr → TS))} (hc : Names X x c)
      (hsu : ∀ (a : Addr) (oe : Obj) (cls : Value) (dd : Option Addr) (pn : List (Addr × Obj)), Zc cls dd oe → (∃ vs, oe.data = .fields vs) → PSs (X.suite a ((a, oe) :: pn)) (b0 :: su) (ts a cls dd)) (r : AsOk X n hs l) :
      AsOk X n (.ExceptHandler (some (.Name x p1)) (some n) (b0 :: su) p2 :: hs) ((c, ts) :: l)
section
variable {X : Cx} {n : Str} {i : Nat} {body : List Stmt} {h0 : ExceptHandler} {hds : List ExceptHandler} {l : List (Value × (Addr → Value → Option Addr → TS))} {pos : Pos} {tb : WX → TS} {Wo : WX}
theorem ps_tryAll (hs : X.stack = X.env :: X.outer) (hf : X.env.frame = some X.env.locals) (hN : X.N.Nodup) (hi : X.N[i]? = some n) (hln : X.env.kindOf n = some .local) (tk : Takes X Wo)
    (hb : ∀ (W : WX) (pn : List (Addr × Obj)) (xe : Value → Shared → Prop), Takes (X.tr pn xe) W → PassesOwn (model X.prog X.w) X.A X.env xe → PSs (X.tr pn xe) body (tb W))
    (hh : AsOk X n (h0 :: hds) l) : PS X (.Try body (h0 :: hds) [] [] pos) (fun D τ G => tb (wAll X.K i Wo D l) D τ G) := by
  refine ⟨fun pns s τ G D I h => ?_⟩
  have xok := I.ok
  have xfr : X.A.frames = some (X.env :: X.outer) := by rw [xok.frames, hs]
  have xloc : Loc X.env.scope n := .inl hln
  refine wpAny_Try_except (wpAny_mono ((hb (wAll X.K i Wo D l) (X.pn ++ pns) (fun e s1 => wpAny (model X.prog X.w) X.A (noteFrame e X.env) (fun _ s2 => wpAny (model X.prog X.w) X.A (setFlight e none) (fun _ s3 =>
    wpAny (model X.prog X.w) X.A (handleBy e X.env (h0 :: hds)) (SP X pns D) X.xe s3) X.xe s2) X.xe s1) (fun u s' xx => ?_) PassesOwn.looking).run [] s τ G D (I.toTry _) h) (fun f s1 hsp => ?_) (fun e s1 he => he))
  · obtain ⟨a, B, sI, pns', τ', G', cls, dd, rfl, Jt, nb, up, sky, na, os, ag, ww⟩ := xx
    have J : Inv X pns τ' G' sI := Jt.ofTry xok
    have sky1 : Sky B (X.env :: X.outer) a (Zc cls dd) X.env.locals s'.heap := by rw [← hs]; exact sky
    show wpAny (model X.prog X.w) X.A (noteFrame (.ref a) X.env) _ _ _
    refine Sky.land Zc.steady xfr hf sky1 fun k3 fl3 up3 => ?_
    have J3 : Inv X pns τ' G' { s' with heap := k3 } := J.landed nb fl3.1 (up.trans up3) os ag
    obtain ⟨ob3, vs3, he3, hz3, hd3⟩ := fl3.there
    have nfr : a ∉ frs (X.env :: X.outer) := fun hm => by
      obtain ⟨_, oo, ee, hnf⟩ := fl3.2.2.1.mem hm
      rw [he3] at ee
      cases ee
      exact hnf _ hd3
    have nL : a ≠ X.env.locals := fun z => nfr (List.mem_filterMap.mpr ⟨X.env, List.mem_cons_self, by rw [hf, z]⟩)
    have nF : a ∉ X.fs := fun hm => by
      obtain ⟨e, he, qq⟩ := List.mem_filterMap.mp hm
      exact nfr (List.mem_filterMap.mpr ⟨e, List.mem_cons_of_mem _ he, qq⟩)
    have S3 := J3.suite he3 hd3 na nL nF
    have go : ∀ {hs' : List ExceptHandler} {l' : List (Value × (Addr → Value → Option Addr → TS))}, AsOk X n hs' l' → wAll X.K i Wo D l' cls dd τ' G' →
        wpAny (model X.prog X.w) X.A (handleBy (.ref a) X.env hs') (SP X pns D) X.xe { s' with heap := k3 } := by
      intro hs' l' hk
      induction hk with
      | nil =>
        intro ww
        refine wpAny_handleBy_nil ?_
        obtain ⟨_, _, _, ob, vs, T, oT, ts', he, hz, hd, h1, hr⟩ := id fl3
        unfold PySem.passOn
        refine wpAny_bind (wpAny_field he hd h1 ?_)
        rw [if_neg (show ¬ ((Value.ref T == Value.none) = true) from by simp)]
        have fin : wpAny (model X.prog X.w) X.A (setFlight (.ref a) X.env.frame) (fun _ s4 => wpAny (model X.prog X.w) X.A (throw (.ref a) : Sem Flow) (SP X pns D) X.xe s4) X.xe { s' with heap := k3 } := by
          rw [hf]
          exact HandSPX.setFlight_upZ fl3 fun k4 hh4 up4 => wpAny_throw (tk _ _ ⟨a, B, sI, pns, τ', G', cls, dd, rfl, J, nb, (up.trans up3).trans up4, .inr (.inr (by rw [hs]; exact hh4)), na, os, ag, ww⟩)
        first
          | exact wpAny_bind (wpAny_pure (wpAny_bind fin))
          | exact wpAny_bind fin
      | @cons x c ts b0 su p1 p2 hs2 l2 hc hsu r ih =>
        intro ww
        obtain ⟨b, hb1, hyes, hno⟩ := ww
        refine wpAny_handleBy_cons (codeAny_handlers_test ?_) (by intro q; cases q)
        have LT : PySem.W.Looks (model X.prog X.w) k3 (typeOf (.ref a)) cls := fun A Q E s k q => wpAny_typeOf_ref (k _ _ he3) (by rw [hz3.1]; exact q)
        have LM := PySem.W.exm_one (M := model X.prog X.w) (J3.kIn) LT hb1
        have test : ∀ {Q : Value → Shared → Prop} {E : Value → Shared → Prop}, Q c { s' with heap := k3 } → wpAny (model X.prog X.w) (X.A.mark (some (.ref a))) (eval (.Name x p1) X.env) Q E { s' with heap := k3 } := fun {Q E} q => by
          obtain ⟨hg, hdbg, hm | ⟨hm, hv, hnn⟩⟩ := hc
          · exact ld_glob (X := X.suite a ((a, ob3) :: (X.pn ++ pns))) S3 hg hm q hdbg
          · exact ld_blt (X := X.suite a ((a, ob3) :: (X.pn ++ pns))) S3 hg hm hv q hnn hdbg
        refine test (LM.here ?_)
        cases b with
        | true =>
          refine codeAny_handlers_suite_as ?_
          refine HandSPX.lands_againZ fl3 fun k4 fl4 up4 => ?_
          have J4 : Inv X pns τ' G' { s' with heap := k4 } := J.landed nb fl4.1 ((up.trans up3).trans up4) os ag
          obtain ⟨ob4, vs4, he4, hz4, hd4⟩ := fl4.there
          have S4 := J4.suite he4 hd4 na nL nF
          refine store_ok (X := X.suite a ((a, ob4) :: (X.pn ++ pns))) (v := .ref a) S4 hN hi xloc rfl (fun s5 S5 => ?_) (.inr hln)
          refine wpAny_mono ((hsu a ob4 cls dd (X.pn ++ pns) hz4 ⟨_, hd4⟩).run [] s5 _ G' _ S5 (hyes rfl a na)) (fun f s6 hsp => ?_) (fun _ _ z => False.elim z)
          have en : ∀ {τ6 : L2.St} {G6 : Hp} {Q : Shared → Prop}, Inv (X.suite a ((a, ob4) :: (X.pn ++ pns))) [] τ6 G6 s6 → (∀ s7, Inv X pns (τ6.set i none) G6 s7 → Q s7) →
              wpAny (model X.prog X.w) X.A (do bindName X.env n .none; unbindBehindTheSuite X.env n p2) (fun _ s7 => Q s7) X.xe s6 := fun {τ6 G6 Q} S6 hq => gone_ok (S6.unsuite xok) hN hi hln hq
          cases f with
          | next =>
            obtain ⟨τ6, G6, S6, q6⟩ := hsp
            exact en S6 fun s7 J7 => ⟨_, _, J7, q6⟩
          | brk =>
            obtain ⟨τ6, G6, S6, q6⟩ := hsp
            exact en S6 fun s7 J7 => ⟨_, _, J7, q6⟩
          | cont =>
            obtain ⟨τ6, G6, S6, q6⟩ := hsp
            exact en S6 fun s7 J7 => ⟨_, _, J7, q6⟩
          | ret u =>
            obtain ⟨v6, τ6, G6, S6, r6, q6⟩ := hsp
            exact en S6 fun s7 J7 => ⟨_, _, _, J7, r6, q6⟩
        | false =>
          show wpAny _ X.A (handleBy (.ref a) X.env hs2) _ _ _
          exact ih (hno rfl)
    exact go hh ww
  · cases f with
    | next =>
      obtain ⟨τ', G', Jt, q⟩ := hsp
      exact wpAny_execs_nil ⟨τ', G', Jt.ofTry xok, q⟩
    | brk =>
      obtain ⟨τ', G', Jt, q⟩ := hsp
      exact ⟨τ', G', Jt.ofTry xok, q⟩
    | cont =>
      obtain ⟨τ', G', Jt, q⟩ := hsp
      exact ⟨τ', G', Jt.ofTry xok, q⟩
    | ret u =>
      obtain ⟨v, τ', G', Jt, r, q⟩ := hsp
      exact ⟨v, τ', G', Jt.ofTry xok, r, q⟩
end
end Pw

set_option Elab.async false
set_option linter.all false
set_option maxRecDepth 100000
set_option maxHeartbeats 2000000
namespace Pw
open PySem PySem.Spec PyProof.Rows L2 LamX
section
variable {X : Cx} {pins : List (Addr × Obj)} {σ : L2.St} {H HZ : Hp} {s s1 : Shared}
/-- x() in the def that got the lambda; what the lambda lets out is wished for at the slots as they stand -/
theorem pe_actW {CXg : CXT} {Eg : XK} {Ng : List Str} {qg : Str} {sg : Scope} {g f c' : Addr} {cdg pm ctv : Value} {params : Arguments} {body : Expr} {scope : Scope} {k i : Nat} {a : Str} {pn : List (Addr × Obj)} {xe : Value → Shared → Prop} {W : WX} {tb : XK → TE} {p1 p2 : Pos}
    (I : Inv X pins σ H s) (L : LamS X.env.scope scope) (hf : s.heap.get? f = some (PySem.W.kla_obj "<lambda>" (X.env.qual ++ "<lambda>") params body scope (cloFrom X.env.cells scope.names []) pm c' ctv)) (hfn : H f = none) (hfr : f ∉ frs X.stack)
    (hbind : bindArgs (PySem.W.kla_fn "<lambda>" (X.env.qual ++ "<lambda>") params body scope (cloFrom X.env.cells scope.names []) pm (.ref c') ctv) ⟨[], []⟩ = pure [])
    (tk : Takes ((cxOf CXg X.prog X.w X.K X.mg X.base Ng qg sg g cdg X.A X.stack s H Eg).tr pn xe) W) (hr : Room (k + 1) (X.A.deeper (envOfC qg sg s.heap.objs.size g cdg)))
    (hbody : ∀ (A : Around) (outer : List Env) (s : Shared) (H : Hp) (E : XK), Room k (A.deeper (lamEnv X scope s.heap.objs.size f c')) → PE (lamCx X A outer s H E scope f c') body (tb E))
    (hN : Ng[i]? = some a) (hv : Vis sg a) (hd : (a == ("__debug__" : Str)) = false := by decide) (hcd : (a == ("__classdict__" : Str)) = false := by decide) :
    PE ((cxOf CXg X.prog X.w X.K X.mg X.base Ng qg sg g cdg X.A X.stack s H Eg).tr pn xe) (.Call (.Name a p1) [] [] p2)
      (fun σZ HZ Q => ∃ (E : XK) (Q' : VK), (∀ cls dd G, E cls dd G → W cls dd σZ G) ∧ (∀ v G, Q' v G → Q v G) ∧ σZ[i]? = some (some (.ref f)) ∧ HZ c' = some (CodeO c' (X.env.qual ++ "<lambda>")) ∧ tb E σ HZ Q') := by
  refine ⟨fun pZ sZ σZ HZ Q IZ h => ?_⟩
  obtain ⟨E, Q', hE, hQ, hs, hc, ht⟩ := h
  refine wpAny_Call_Name_kw (thn ((pe_var (pos := p1) (i := i) hN hv hd hcd).run pZ sZ σZ HZ (fun v H1 => v = .ref f ∧ H1 = HZ) IZ ⟨.ref f, hs, rfl, rfl⟩) fun u s1 ⟨v, H1, I1, r1, q1⟩ => ?_)
  obtain ⟨ev, eH⟩ := q1
  subst ev
  rw [eH] at I1
  obtain rfl : u = Value.ref f := r1
  have of1 : s1.heap.get? f = some (PySem.W.kla_obj "<lambda>" (X.env.qual ++ "<lambda>") params body scope (cloFrom X.env.cells scope.names []) pm c' ctv) := I1.base.keep f _ hf hfn hfr (fun z => nomatch (show f ∈ ([] : List Addr) from z))
  refine PySem.W.callWith_F0 ⟨_, _, _, _, of1⟩ ?_
  have un1 : Un (frs X.stack) [] H HZ s.heap s1.heap := I1.base
  obtain ⟨⟨oc, vs, t, hoc, hdc, hvc⟩, _, _⟩ := I1.hok c' _ hc
  have rc : codeAny (model X.prog X.w) (X.A.deeper (envOfC qg sg s.heap.objs.size g cdg)) (.call (.ref f) ⟨[], []⟩) (CR (L2.CX X.prog X.w) (envOfC qg sg s.heap.objs.size g cdg :: X.stack) X.prog X.w HZ s1 Q' E) s1 := by
    refine PySem.W.kla_callFunE hr.depth of1 rfl L.co L.gen rfl ⟨c', oc, vs, t, rfl, hoc, hdc, hvc⟩ ?_
    rw [hbind]
    refine wpAny_pure (wpAny_newFunctionEnv (fun y hy => (L.own y hy).2) (fun y hy => absurd hy (by simp)) (fun h₁ hns hsb => ⟨I1.nolimit.fresh _ hsb, ?_⟩) L.kind)
    show codeAny _ _ (.expr body (lamEnv X scope s1.heap.objs.size f c')) _ _
    have kp : ∀ b o, s1.heap.get? b = some o → h₁.get? b = some o := fun b o e => hsb.extBut b o (Nat.ne_of_lt (Heap.lt_size e)) (Heap.get?_push_of_some _ e)
    have J : Inv (lamCx X (X.A.deeper (envOfC qg sg s.heap.objs.size g cdg)) (envOfC qg sg s.heap.objs.size g cdg :: X.stack) s1 HZ E scope f c') [] σ HZ { s1 with heap := h₁, toks := s1.toks + ([] : List (Str × Value)).length } := lam_start2 I L I1.env0 hr.hd un1 hns kp
    refine PySem.W.kla_codeExpr (wpAny_mono ((hbody _ _ s1 HZ E (hr.deeper _)).run [] _ _ HZ Q' J ht) (fun v s' hq => ?_) fun e s' hq => hq)
    obtain ⟨w', G, J', rv, q⟩ := hq
    exact ⟨w', G, J'.os, J'.bare, J'.base, J'.hok, rv, q⟩
  refine wpAny_call (codeAny_mono rc fun r s' hq => ?_)
  cases r with
  | error e => exact tk e s' (XE.of_call I1 hE hq)
  | ok fl =>
    cases fl with
    | ret u =>
      obtain ⟨v, G, J, rv, q⟩ := I1.after hq
      exact ⟨v, G, J, rv, hQ v G q⟩
    | next => exact False.elim hq
    | brk => exact False.elim hq
    | cont => exact False.elim hq
end
/-- the def g(a) that calls what it got -/
def GivesW (X : Cx) (Ng : List Str) (x : Str) (sg : Scope) (g : Addr) (cdg : Value) (bg : List Stmt) (a : Str) (q : Str) (TT : (XK → Hp → VK → Prop) → Hp → VK → Prop) : Prop :=
  ∀ (f c' : Addr) (s : Shared) (H : Hp) (Q : VK) (tl : XK → Hp → VK → Prop),
    (∀ (W : WX) (pn : List (Addr × Obj)) (xe : Value → Shared → Prop) (p1 p2 : Pos), Takes ((cxOf C8.CX0 X.prog X.w X.K X.mg X.base Ng x sg g cdg X.A X.stack s H C8.E0).tr pn xe) W →
      PE ((cxOf C8.CX0 X.prog X.w X.K X.mg X.base Ng x sg g cdg X.A X.stack s H C8.E0).tr pn xe) (.Call (.Name a p1) [] [] p2)
        (fun σZ HZ Q => ∃ (E : XK) (Q' : VK), (∀ cls dd G, E cls dd G → W cls dd σZ G) ∧ (∀ v G, Q' v G → Q v G) ∧ σZ[0]? = some (some (.ref f)) ∧ HZ c' = some (CodeO c' q) ∧ tl E HZ Q')) →
    H c' = some (CodeO c' q) → TT tl H Q →
    ∃ t, PSs (cxOf C8.CX0 X.prog X.w X.K X.mg X.base Ng x sg g cdg X.A X.stack s H C8.E0).nox bg t ∧ t { nx := fun _ G => Q .non G, rt := Q } (L2.start Ng [.ref f]) H
section
variable {X : Cx}
/-- g(lambda: body) -/
theorem pe_lamW {T : List (Addr × Str)} {TT : (XK → Hp → VK → Prop) → Hp → VK → Prop} {x a : Str} {g c P : Addr} {k : Nat} {pg : Arguments} {bg : List Stmt} {sg : Scope} {dV kV doc pm cdv ct oc : Value} {an od : Option Addr} {osl : Array (Option Value)} {Ng : List Str}
    {params : Arguments} {body : Expr} {scope : Scope} {t : XK → TE} {p lpos pos : Pos} (hg : Gl X x) (hm : X.mg x = some (.ref g)) (hk : PySem.W.keepIn X.K (.ref g) = true)
    (lk : X.K.lookup g = some ⟨oc, od, .func (PySem.W.fnOf x x pg bg sg dV kV doc pm an cdv ct), osl⟩) (hcg : PySem.W.codeIn X.K cdv x = true) (hb : L2.Binds X.K (PySem.W.fnOf x x pg bg sg dV kV doc pm an cdv ct) [a] []) (Sg : FnScope Ng [a] sg) (hNg : Ng[0]? = some a) (hva : Vis sg a)
    (hG : GivesW X Ng x sg g cdv bg a (X.env.qual ++ "<lambda>") TT)
    (TB : TabB X.base X.mg c P) (hcode : X.env.code = .ref c) (hmT : (P, X.env.qual ++ "<lambda>") ∈ T) (hu : ∀ p ∈ T, p.1 = P → p.2 = X.env.qual ++ "<lambda>") (hr : Room (k + 2) X.A) (L : LamS X.env.scope scope) (hdef : defaultsOf params X.env = ([], []))
    (hbind : ∀ (q : Str) (cl : List (Str × Addr)) (pm cv ctv : Value), bindArgs (PySem.W.kla_fn "<lambda>" q params body scope cl pm cv ctv) ⟨[], []⟩ = pure [])
    (hbody : ∀ (A : Around) (outer : List Env) (s : Shared) (H : Hp) (E : XK) (f c' : Addr), Room k (A.deeper (lamEnv X scope s.heap.objs.size f c')) → PE (lamCx X A outer s H E scope f c') body (t E))
    (hdb : (x == ("__debug__" : Str)) = false := by decide) (hd : (a == ("__debug__" : Str)) = false := by decide) (hcd : (a == ("__classdict__" : Str)) = false := by decide) :
    PE X (.Call (.Name x p) [.Lambda params body scope lpos] [] pos) (tLam T TT t) := by
  refine ⟨fun pns s τ G Q I h => ?_⟩
  obtain ⟨hT, h⟩ := h
  refine wpAny_Call_Name_kw (ld_glob I hg hm (PySem.W.callWith_K (h₀ := X.base) I.ok.mod.kin hk ?_ (by rfl) (by rfl)) hdb)
  show wpAny _ _ (spliced ((false, eval (.Lambda params body scope lpos) X.env) :: backTo pos (starEach [] X.env))) _ _ s
  refine Calls.spliced_cons (lam_make2 I TB hcode hmT hu hT hdef (L.has I.ok) fun f c' pm' ctv H1 s' I1 eN T1 hf hfn hfr hco => Calls.spliced_nil ⟨I1.kIn, ?_⟩)
  have rc : codeAny (model X.prog X.w) X.A (.call (.ref g) ⟨[.ref f], []⟩) (CR C8.CX0 X.stack X.prog X.w H1 s' Q C8.E0) s' := by
    refine run_ofS (N := Ng) (ps := [a]) (us := [.ref f]) (vs := [.ref f]) lk hcg Sg hr I1.env0 (hb s' [.ref f] I1.kIn rfl) (.cons rfl .nil) rfl fun hr' => ?_
    obtain ⟨t', ht', hq'⟩ := hG f c' s' H1 Q (fun E G' Q' => t E τ G' Q') (fun W pn xe p1 p2 tk => pe_actW (i := 0) I1 L hf hfn hfr (hbind _ _ _ _ _) tk hr' (fun A outer s H E hr2 => hbody A outer s H E f c' hr2) hNg hva hd hcd) hco (h H1 eN T1)
    exact ⟨t', ht'.nox, hq'⟩
  refine wpAny_call (codeAny_mono rc fun r s2 hq => ?_)
  cases r with
  | error e => exact (show False from hq).elim
  | ok fl =>
    cases fl with
    | ret u => exact I1.after hq
    | next => exact False.elim hq
    | brk => exact False.elim hq
    | cont => exact False.elim hq
/-- behind the try of why: return (told, word) -/
def whyEnds (Q : VK) : Ends := { nx := tRet (tTup (tCons (tVar 1) (tCons (tVar 2) tNil))) { nx := fun _ G => Q .non G, rt := Q }, rt := Q }
/-- told = None; word = ''; try: told = a() / except .. as e: ..; return (told, word) -/
def TTwhy (K : PySem.W.Frag) (l : List (Value × (Addr → Value → Option Addr → TS))) : (XK → Hp → VK → Prop) → Hp → VK → Prop := fun tl H Q =>
  ∃ (E : XK) (Q' : VK), (∀ (f : Addr) cls dd G, E cls dd G → wAll K 3 (fun _ _ _ _ => False) (whyEnds Q) l cls dd [some (.ref f), some .non, some (.str ""), none] G) ∧
    (∀ v G, Q' v G → ∀ p, G p = none → Q (.ref p) (upd G p (.tup [v, .str ""]))) ∧ tl E H Q'
theorem why_gives {x a tn wn en q : Str} {sg : Scope} {g : Addr} {cdg : Value} {j1 j2 : Nat} {j3 : Nat} {h0 : ExceptHandler} {hds : List ExceptHandler} {l : List (Value × (Addr → Value → Option Addr → TS))} {p1 p2 p3 p4 p5 p6 p7 p8 p9 p10 p11 p12 p13 p14 p15 : Pos}
    (S : FnScope [a, tn, wn, en] [a] sg) (k1 : sg.names.lookup tn = some .local) (k2 : sg.names.lookup wn = some .local) (k3 : sg.names.lookup en = some .local)
    (d1 : (tn == ("__debug__" : Str)) = false) (d2 : (tn == ("__classdict__" : Str)) = false) (d3 : (wn == ("__debug__" : Str)) = false) (d4 : (wn == ("__classdict__" : Str)) = false)
    (hcl : ∀ (s : Shared) (H : Hp), AsOk (cxOf C8.CX0 X.prog X.w X.K X.mg X.base [a, tn, wn, en] x sg g cdg X.A X.stack s H C8.E0).nox en (h0 :: hds) l) :
    GivesW X [a, tn, wn, en] x sg g cdg [.Assign [.Name tn p1] (.Constant .none j1 p2) p3, .Assign [.Name wn p4] (.Constant (.str "") j2 p5) p6, .Try [.Assign [.Name tn p7] (.Call (.Name a p8) [] [] p9) p10] (h0 :: hds) [] [] p11, .Return (some (.Tuple [.Name tn p12, .Name wn p13] j3 p14)) p15] a q (TTwhy X.K l) := by
  intro f c' s H Q tl act hc h
  obtain ⟨E, Q', hE, hQ, h⟩ := h
  refine ⟨_, pss_cons (ps_set (i := 1) S.nd rfl (.inl k1) pe_non) (pss_cons (ps_set (i := 2) S.nd rfl (.inl k2) pe_str)
    (pss_cons (ps_tryAll (i := 3) (n := en) (Wo := fun _ _ _ _ => False) (tb := fun W => tAsg (fun σZ HZ Q => ∃ (E : XK) (Q' : VK), (∀ cls dd G, E cls dd G → W cls dd σZ G) ∧ (∀ v G, Q' v G → Q v G) ∧ σZ[0]? = some (some (.ref f)) ∧ HZ c' = some (CodeO c' q) ∧ tl E HZ Q') (gName 1)) rfl rfl S.nd rfl k3
      (fun _ _ z => by obtain ⟨_, _, _, _, _, _, _, _, _, _, _, _, _, _, _, _, z⟩ := z; exact z.elim)
      (fun W pn xe tk _ => pss_one (ps_set (i := 1) S.nd rfl (.inl k1) (act W pn xe p8 p9 tk))) (hcl s H))
    (pss_one (ps_ret (pe_tup (pa_cons (pe_var (i := 1) rfl (.inl k1) d1 d2) (pa_cons (pe_var (i := 2) rfl (.inl k2) d3 d4) pa_nil))))))), ?_⟩
  refine ⟨E, Q', fun cls dd G e => hE f cls dd G e, fun v G q => ?_, rfl, hc, h⟩
  exact ⟨v, rfl, .str "", rfl, by show 2 ≤ sizeLine; decide, fun p hp => hQ v G q p hp⟩
end
end Pw

set_option Elab.async false
set_option linter.all false
set_option maxRecDepth 100000
set_option maxHeartbeats 2000000
namespace Pw
open PySem PySem.Spec PyProof.Rows L2
/-- enumerate(text): each sign in a new pair with its place -/
def Ites (x : Str) : It := ⟨fun i _ => i < x.cps.size, fun i H v H' => ∃ T c, v = .ref T ∧ H T = none ∧ x.cps[i]? = some c ∧ H' = upd H T (.tup [.int (i : Nat), .str ⟨#[c]⟩]), fun i _ => x.cps.size ≤ i⟩
theorem turn_enumS {P : Program} {w : World} {K : PySem.W.Frag} {elts : List Expr} {kk : Nat} {tpos : Pos} (x : Str) (t : Tok) (e it : Addr) :
    Turn P w K (.Tuple elts kk tpos) (Ites x) [e, it] e (fun i h => i ≤ x.cps.size ∧ (∃ old, IsEnum h e it ((i : Nat) : Int) old) ∧ h.IsStrIter it (strIterType x) x t i ∧ e ≠ it) where
  mem := by simp
  obj := fun i h st b hb => by
    obtain ⟨_, ⟨old, he⟩, ⟨o, ho, hc, hd⟩, _⟩ := st
    have e' : b = e ∨ b = it := by simpa using hb
    rcases e' with z | z
    · rw [z]
      exact ⟨_, he, fun v q => nomatch q⟩
    · rw [z]
      exact ⟨o, ho, fun v q => by rw [hd] at q; cases q⟩
  keep := fun i h h' st k => let ⟨hn, ⟨old, he⟩, ⟨o, ho, r⟩, hne⟩ := st; ⟨hn, ⟨old, k e (by simp) _ he⟩, ⟨o, k it (by simp) o ho, r⟩, hne⟩
  item := by
    intro X hP hw hK hc i pins s σ H E I hf st hg
    subst hP hw hK
    obtain ⟨_, ⟨old, he⟩, hit, hne⟩ := st
    have hel : e < s.heap.objs.size := Heap.lt_size he
    have hil : it < s.heap.objs.size := by obtain ⟨_, q, _⟩ := hit; exact Heap.lt_size q
    have Dr := Draws.text (prog := X.prog) (w := X.w) (A := X.A.in1) (show X.A.in1.handled = none from I.ok.hd hc) it x t
    refine wpAny_pyNext_enum_itemD Dr he hit hg hne (by simpa using hne) fun u h' tk hu ho hit' hT hsz hk => ?_
    obtain ⟨c, tc, hcx, rfl⟩ := hu
    refine ⟨_, rfl, wpAny_letOwnedTupleGo_enum (s := { s with heap := h', toks := tk + 1 }) ho fun h'' he' sb => ?_⟩
    have hT2 : h''.get? s.heap.objs.size = some { cls := .type "tuple", data := .seq #[.int i tk, .str ⟨#[c]⟩ tc] } := (sb.2 _ (Nat.ne_of_gt hel)).trans hT
    have new : ObjOk X.prog X.w (upd H s.heap.objs.size (.tup [.int (i : Nat), .str ⟨#[c]⟩])) h'' s.heap.objs.size (.tup [.int (i : Nat), .str ⟨#[c]⟩]) :=
      ⟨by show 2 ≤ sizeLine; decide, [.int i tk, .str ⟨#[c]⟩ tc], .cons ⟨_, rfl⟩ (.cons ⟨_, rfl⟩ .nil), ⟨_, hT2, rfl, _, rfl⟩⟩
    have I1 : Inv X pins σ (upd H s.heap.objs.size (.tup [.int (i : Nat), .str ⟨#[c]⟩])) { s with heap := h'', toks := tk + 1 } :=
      I.turnedNew (ch := [e, it]) (fun b ob hb q => (sb.2 b (fun z => hb (by simp [z]))).trans (hk b ob (fun z => hb (by simp [z])) (fun z => hb (by simp [z])) q)) hf (Nat.le_refl _) new
    obtain ⟨oi, ei, ri⟩ := hit'
    refine ⟨.ref s.heap.objs.size, _, I1, rfl, ⟨_, c, rfl, I.hok.fresh (Nat.le_refl _), hcx, rfl⟩, ⟨hg, ⟨.str ⟨#[c]⟩ tc, ?_⟩, ⟨oi, (sb.2 it (Ne.symm hne)).trans ei, ri⟩, hne⟩, fun b hb => ?_⟩
    · have e1 : ((i + 1 : Nat) : Int) = (i : Int) + 1 := by omega
      rw [e1]
      exact he'
    · have hb' : b < s.heap.objs.size := by
        have e' : b = e ∨ b = it := by simpa using hb
        rcases e' with z | z
        · rw [z]
          exact hel
        · rw [z]
          exact hil
      rw [upd_ne (Nat.ne_of_lt hb')]
      exact (hf b hb).1
  done := by
    intro X hP hw hK hc i pins s σ H E I hf st hg
    subst hP hw hK
    obtain ⟨hn, ⟨old, he⟩, hit, hne⟩ := st
    have hg : x.cps.size ≤ i := hg
    obtain rfl : i = x.cps.size := by omega
    obtain ⟨f0, f1, f2, f3, f4, f5⟩ := hf it (by simp)
    have Dr := Draws.text (prog := X.prog) (w := X.w) (A := X.A.in1) (show X.A.in1.handled = none from I.ok.hd hc) it x t
    exact wpAny_pyNext_enum_endD Dr he hit fun h' eb => ⟨rfl, I.turned (t' := s.toks) (fun b o hb q => eb b o hb q) f0 f1 f3 f4 f5⟩
  self := fun A i s Q E st h => let ⟨_, ⟨_, he⟩, _⟩ := st; wpAny_pyIter_enum he h
def iEnumS (ta : TA) : TI := fun σ H R => ta σ H fun vs H1 => ∃ x, vs = [.str x] ∧ R (Ites x) H1
theorem pi_enumS {X : Cx} {e : Expr} {ta : TA} {p pos tpos : Pos} {elts : List Expr} {kk : Nat} (hg : Gl X "enumerate") (hm : X.mg "enumerate" = none) (ha : PA X [e] ta) (hs : starEach [e] X.env = [(false, eval e X.env)] := by rfl) :
    PI X (.Tuple elts kk tpos) (.Call (.Name "enumerate" p) [e] [] pos) (iEnumS ta) := by
  refine ⟨fun pns s τ G R I h => ?_⟩
  refine Call_ (ld_blt I hg hm boot_enumerate (PyProof.Rows.callWith_type1 (thn (ha.run pos pns s τ G _ I h) fun us s1 ⟨vs, H1, I1, r1, q1⟩ => ?_) hs rfl))
  obtain ⟨x, ex, q⟩ := q1
  subst ex
  cases r1 with
  | cons r rr =>
    cases rr
    obtain ⟨t, rfl⟩ := r
    refine call_enumerate_str fun h' he hit hsz hk => wpAny_pyIter_enum he ?_
    have I2 : Inv X pns τ H1 { s1 with heap := h' } := I1.kept (t' := s1.toks) hk
    refine ⟨s1.heap.objs.size + 1, [s1.heap.objs.size + 1, s1.heap.objs.size], _, _, H1, rfl, I2, turn_enumS x t (s1.heap.objs.size + 1) s1.heap.objs.size, ⟨Nat.zero_le _, ⟨.none, he⟩, hit, Nat.succ_ne_self _⟩, fun b hb => ?_, q⟩
    have e' : b = s1.heap.objs.size + 1 ∨ b = s1.heap.objs.size := by simpa using hb
    have hle : s1.heap.objs.size ≤ b := by
      rcases e' with z | z
      · rw [z]
        exact Nat.le_add_right _ _
      · rw [z]
        exact Nat.le_refl _
    exact I1.fpOk hle (I1.hok.fresh hle)
/-- for i, c in enumerate(text) -/
theorem for_enumS {x : Str} {g : TG} {tb : TS} {D : Ends} {σ : L2.St} {H : Hp} (Pv : Nat → L2.St → Hp → Prop) (h0 : Pv 0 σ H)
    (hs : ∀ i c σ H T, x.cps[i]? = some c → Pv i σ H → H T = none → g (.ref T) σ (upd H T (.tup [.int (i : Nat), .str ⟨#[c]⟩])) fun σ2 H2 => tb { D with nx := Pv (i + 1), ct := Pv (i + 1), bk := D.nx } σ2 H2)
    (hd : ∀ σ H, Pv x.cps.size σ H → D.nx σ H) :
    ∃ W : Nat → Nat → L2.St → Hp → Prop, (∃ m, W 0 m σ H) ∧ ∀ i m σ H, W i m σ H →
      ((Ites x).stop i H ∧ D.nx σ H) ∨ ((Ites x).go i H ∧ ∃ N : L2.St → Hp → Prop, (∀ σ' H', N σ' H' → ∃ m', m' < m ∧ W (i + 1) m' σ' H') ∧ ∀ v H', (Ites x).yld i H v H' → g v σ H' fun σ2 H2 => tb { D with nx := N, ct := N, bk := D.nx } σ2 H2) := by
  refine ⟨fun i m σ H => m = x.cps.size - i ∧ i ≤ x.cps.size ∧ Pv i σ H, ⟨x.cps.size, by simp, Nat.zero_le _, h0⟩, ?_⟩
  rintro i m σ H ⟨rfl, hi, p⟩
  by_cases hlt : i < x.cps.size
  · refine .inr ⟨hlt, Pv (i + 1), fun σ' H' p' => ⟨x.cps.size - (i + 1), by omega, rfl, hlt, p'⟩, fun v H' y => ?_⟩
    obtain ⟨T, c, rfl, nT, hc, rfl⟩ := y
    exact hs i c σ H T hc p nT
  · have e : i = x.cps.size := by omega
    subst e
    exact .inl ⟨Nat.le_refl _, hd σ H p⟩
/-- for c in text -/
theorem for_str {x : Str} {g : TG} {tb : TS} {D : Ends} {σ : L2.St} {H : Hp} (Pv : Nat → L2.St → Hp → Prop) (h0 : Pv 0 σ H)
    (hs : ∀ i c σ H, x.cps[i]? = some c → Pv i σ H → g (.str ⟨#[c]⟩) σ H fun σ2 H2 => tb { D with nx := Pv (i + 1), ct := Pv (i + 1), bk := D.nx } σ2 H2)
    (hd : ∀ σ H, Pv x.cps.size σ H → D.nx σ H) :
    ∃ W : Nat → Nat → L2.St → Hp → Prop, (∃ m, W 0 m σ H) ∧ ∀ i m σ H, W i m σ H →
      ((Its x).stop i H ∧ D.nx σ H) ∨ ((Its x).go i H ∧ ∃ N : L2.St → Hp → Prop, (∀ σ' H', N σ' H' → ∃ m', m' < m ∧ W (i + 1) m' σ' H') ∧ ∀ v H', (Its x).yld i H v H' → g v σ H' fun σ2 H2 => tb { D with nx := N, ct := N, bk := D.nx } σ2 H2) := by
  refine ⟨fun i m σ H => m = x.cps.size - i ∧ i ≤ x.cps.size ∧ Pv i σ H, ⟨x.cps.size, by simp, Nat.zero_le _, h0⟩, ?_⟩
  rintro i m σ H ⟨rfl, hi, p⟩
  by_cases hlt : i < x.cps.size
  · refine .inr ⟨hlt, Pv (i + 1), fun σ' H' p' => ⟨x.cps.size - (i + 1), by omega, rfl, hlt, p'⟩, fun v H' y => ?_⟩
    obtain ⟨rfl, c, hc, rfl⟩ := y
    exact hs i c σ _ hc p
  · have e : i = x.cps.size := by omega
    subst e
    exact .inl ⟨Nat.le_refl _, hd σ H p⟩
end Pw

set_option Elab.async false
set_option linter.all false
set_option maxRecDepth 100000
namespace Pw
open PySem PySem.Builtin PySem.Builtin.Str PySem.StrLaws TL

/-! ### signs -/
def bad (c : Nat) : Bool := c != 48 && c != 49
/-- the first stranger's place -/
def strange (l : List Nat) : Option Nat := l.findIdx? bad
/-- a text of 0s and 1s alone -/
def Pure (l : List Nat) : Prop := ∀ c ∈ l, c = 48 ∨ c = 49
theorem pure_of {l : List Nat} (h : strange l = none) : Pure l := fun c hc => by
  have := List.findIdx?_eq_none_iff.mp h c hc
  simp [bad] at this
  by_cases e : c = 48
  · exact .inl e
  · exact .inr (this e)
theorem strange_none {l : List Nat} (h : Pure l) : strange l = none := by
  refine List.findIdx?_eq_none_iff.mpr fun c hc => ?_
  rcases h c hc with e | e <;> simp [bad, e]
theorem strange_take {l : List Nat} {i c : Nat} (h : l[i]? = some c) (hp : Pure (l.take i)) : bad c = true → strange l = some i := fun hb => by
  obtain ⟨hi, e⟩ := List.getElem?_eq_some_iff.mp h
  refine List.findIdx?_eq_some_iff_getElem.mpr ⟨hi, by rw [e]; exact hb, fun j hj => ?_⟩
  have hm : l[j] ∈ l.take i := List.mem_take_iff_getElem.mpr ⟨j, by omega, rfl⟩
  rcases hp _ hm with q | q <;> simp [bad, q]
theorem pure_more {l : List Nat} {i c : Nat} (h : l[i]? = some c) (hp : Pure (l.take i)) (hb : bad c = false) : Pure (l.take (i + 1)) := fun d hd => by
  rw [List.take_add_one, h] at hd
  rcases List.mem_append.mp hd with q | q
  · exact hp d q
  · obtain rfl : d = c := by simpa using q
    simp [bad] at hb
    by_cases e : d = 48
    · exact .inl e
    · exact .inr (hb e)
theorem strange_lt {l : List Nat} {i : Nat} (h : strange l = some i) : i < l.length := (List.findIdx?_eq_some_iff_getElem.mp h).1

/-! ### count of one sign -/
theorem at_sign {x y : Str} {s : Nat} (hy : tl y = [s]) (i : Nat) : At x y x.length i ↔ (tl x)[i]? = some s := by
  rw [at_iff (by rw [hy]; simp), hy]
  show ((List.drop i (tl x)).take 1 == [s]) = true ↔ _
  rw [beq_iff_eq]
  constructor
  · intro h
    have : ((tl x).drop i)[0]? = some s := by
      have e := congrArg (·[0]?) h
      simpa [List.getElem?_take] using e
    simpa using this
  · intro h
    obtain ⟨hi, e⟩ := List.getElem?_eq_some_iff.mp h
    rw [List.drop_eq_getElem_cons hi, e]
    rfl
theorem count_none {s : Nat} {l : List Nat} (h : ∀ i : Nat, l[i]? ≠ some s) : l.count s = 0 := by
  refine List.count_eq_zero.mpr fun hm => ?_
  obtain ⟨i, hi, e⟩ := List.mem_iff_getElem.mp hm
  exact h i (by rw [List.getElem?_eq_getElem hi, e])
theorem chain_count {x y : Str} {s : Nat} (hy : tl y = [s]) : ∀ (cuts : List Nat) (a f : Nat), ChainG x y x.length a cuts f → (∀ k, f ≤ k → ¬ At x y x.length k) → cuts.length = ((tl x).drop a).count s
  | [], a, f, h, hn => by
    have e : f = a := h
    subst e
    rw [count_none]
    · rfl
    · intro i hi
      rw [List.getElem?_drop] at hi
      exact hn (f + i) (by omega) ((at_sign hy _).mpr hi)
  | c :: r, a, f, h, hn => by
    obtain ⟨h1, h2, h3, h4⟩ := h
    have hl : y.length = 1 := by rw [len_tl, hy]; rfl
    rw [hl] at h4
    have ih := chain_count hy r (c + 1) f h4 hn
    have hc := (at_sign hy c).mp h2
    obtain ⟨hi, e⟩ := List.getElem?_eq_some_iff.mp hc
    have hsplit : (tl x).drop a = ((tl x).drop a).take (c - a) ++ (tl x).drop c := by
      have q := (List.take_append_drop (c - a) ((tl x).drop a)).symm
      rw [List.drop_drop] at q
      rw [show a + (c - a) = c by omega] at q
      exact q
    rw [hsplit, List.count_append, List.drop_eq_getElem_cons hi, e, List.count_cons_self, ← ih, count_none]
    · rw [List.length_cons, Nat.zero_add]
    · intro i hi2
      by_cases hlt : i < c - a
      · rw [List.getElem?_take_of_lt hlt, List.getElem?_drop] at hi2
        exact h3 (a + i) (by omega) (by omega) ((at_sign hy _).mpr hi2)
      · rw [List.getElem?_eq_none (by rw [List.length_take]; omega)] at hi2
        cases hi2
theorem count_sign {x y : Str} {s : Nat} (hy : tl y = [s]) : Txt.count x y = ((tl x).count s : Nat) := by
  have h1 : 1 ≤ y.length := by rw [len_tl, hy]; exact Nat.le_refl _
  obtain ⟨f, g, hn⟩ := occ_tight x y h1
  have := chain_count hy _ 0 f g hn
  rw [List.drop_zero] at this
  unfold Txt.count
  rw [this]
theorem count_pure : ∀ {l : List Nat}, Pure l → l.count 48 + l.count 49 = l.length
  | [], _ => rfl
  | c :: r, h => by
    have ih := count_pure (l := r) fun d hd => h d (List.mem_cons_of_mem _ hd)
    rcases h c List.mem_cons_self with e | e <;> subst e <;> simp [List.count_cons] <;> omega

/-! ### runs of 0s -/
def runL : Nat → List Nat → List Nat
  | k, [] => [k]
  | k, c :: r => if c = 49 then k :: runL 0 r else runL (k + 1) r
theorem spl_len : ∀ (l acc : List Nat), (spl [49] 0 acc l).map List.length = runL acc.length l
  | [], acc => by rw [spl_nil]; rfl
  | c :: r, acc => by
    by_cases h : c = 49
    · subst h
      rw [spl_hit (by show ((49 :: r).take 1 == [49]) = true; rfl), List.map_cons, show ([49] : List Nat).length - 1 = 0 from rfl, spl_len r []]
      show _ = if 49 = 49 then _ else _
      rw [if_pos rfl]
      rfl
    · have hm : pre [49] (c :: r) = false := pre_of_head [] r h
      rw [spl_miss hm, spl_len r (acc ++ [c])]
      show _ = if c = 49 then _ else _
      rw [if_neg h, List.length_append]
      rfl
theorem runL_ne (l : List Nat) : ∀ k, runL k l ≠ [] := by
  induction l with
  | nil => intro k; simp [runL]
  | cons c r ih =>
    intro k
    unfold runL
    split
    · simp
    · exact ih _
theorem runL_len (l : List Nat) : ∀ k, (runL k l).length ≤ l.length + 1 := by
  induction l with
  | nil => intro k; simp [runL]
  | cons c r ih =>
    intro k
    unfold runL
    split
    · rw [List.length_cons, List.length_cons]
      have := ih 0
      omega
    · have := ih (k + 1)
      rw [List.length_cons]
      omega
theorem runL_le (l : List Nat) : ∀ (k n : Nat), n ∈ runL k l → n ≤ k + l.length := by
  induction l with
  | nil =>
    intro k n h
    have : n = k := by simpa [runL] using h
    rw [this]
    exact Nat.le_add_right _ _
  | cons c r ih =>
    intro k n h
    unfold runL at h
    split at h
    · rcases List.mem_cons.mp h with z | z
      · rw [z]
        exact Nat.le_add_right _ _
      · have := ih 0 n z
        rw [List.length_cons]
        omega
    · have := ih (k + 1) n h
      rw [List.length_cons]
      omega
/-- the lengths of split's parts -/
theorem split_len {x y : Str} (hy : tl y = [49]) : (Txt.split x y).map (fun z => z.length) = runL 0 (tl x) := by
  have hk : ¬ Builtin.Str.strKind x < Builtin.Str.strKind y := kind_ok (by
    have e : y.cps = #[49] := Array.toList_inj.mp hy
    rw [e]
    simp)
  have h := split_spl x y (by rw [hy]; simp) hk
  have h2 := congrArg (List.map List.length) h
  rw [hy, spl_len] at h2
  have h3 : List.map List.length (List.map tl (Txt.split x y)) = runL 0 (tl x) := h2
  rw [← h3, List.map_map]
  refine List.map_congr_left fun z _ => ?_
  exact len_tl z
/-- the law's gaps: i the place, the last 1's place -/
def gapL : Nat → Option Nat → List Nat → List Int
  | _, _, [] => []
  | i, last, c :: r => if c = 49 then (match last with | some j => [(i : Int) - j - 1] | none => []) ++ gapL (i + 1) (some i) r else gapL (i + 1) last r
theorem gap_some : ∀ (l : List Nat) (i j k : Nat), i = j + 1 + k → gapL i (some j) l = (runL k l).dropLast.map (fun (n : Nat) => (n : Int))
  | [], i, j, k, h => rfl
  | c :: r, i, j, k, h => by
    unfold gapL runL
    by_cases e : c = 49
    · rw [if_pos e, if_pos e, gap_some r (i + 1) i 0 (by omega), List.dropLast_cons_of_ne_nil (runL_ne _ _), List.map_cons]
      show [(i : Int) - j - 1] ++ _ = _
      rw [show (i : Int) - j - 1 = (k : Int) by omega]
      rfl
    · rw [if_neg e, if_neg e]
      exact gap_some r (i + 1) j (k + 1) (by omega)
theorem gap_none : ∀ (l : List Nat) (i k : Nat), gapL i none l = ((runL k l).drop 1).dropLast.map (fun (n : Nat) => (n : Int))
  | [], i, k => rfl
  | c :: r, i, k => by
    unfold gapL runL
    by_cases e : c = 49
    · rw [if_pos e, if_pos e, gap_some r (i + 1) i 0 (by omega)]
      rfl
    · rw [if_neg e, if_neg e]
      exact gap_none r (i + 1) (k + 1)
/-- the law's idle: (most, here) led along -/
def idleL : Int → Int → List Nat → Int
  | m, _, [] => m
  | m, h, c :: r => idleL (max m (if c = 48 then h + 1 else 0)) (if c = 48 then h + 1 else 0) r
/-- the greatest of a list of at least one -/
def IsMax (m : Int) (l : List Int) : Prop := m ∈ l ∧ ∀ x ∈ l, x ≤ m
theorem IsMax.eq {m n : Int} {l : List Int} (a : IsMax m l) (b : IsMax n l) : m = n := Int.le_antisymm (b.2 _ a.1) (a.2 _ b.1)
theorem idle_max : ∀ (l : List Nat), Pure l → ∀ (k : Nat) (m : Int), (k : Int) ≤ m → ∃ t, IsMax t ((runL k l).map (fun (n : Nat) => (n : Int))) ∧ idleL m k l = max m t
  | [], _, k, m, h => ⟨k, ⟨by simp [runL], by simp [runL]⟩, by simp [idleL]; omega⟩
  | c :: r, hp, k, m, h => by
    have hr : Pure r := fun d hd => hp d (List.mem_cons_of_mem _ hd)
    unfold idleL runL
    rcases hp c List.mem_cons_self with e | e
    · rw [if_pos e, if_neg (by omega)]
      obtain ⟨t, ht, q⟩ := idle_max r hr (k + 1) (max m ((k : Int) + 1)) (by push_cast; omega)
      have hk : (k : Int) + 1 ≤ t := by
        obtain ⟨x, hx⟩ : ∃ x, x ∈ runL (k + 1) r ∧ k + 1 ≤ x := by
          have gen : ∀ (l : List Nat) (k : Nat), ∃ x, x ∈ runL k l ∧ k ≤ x := by
            intro l
            induction l with
            | nil => intro k; exact ⟨k, by simp [runL], Nat.le_refl _⟩
            | cons c r ih =>
              intro k
              unfold runL
              split
              · exact ⟨k, by simp, Nat.le_refl _⟩
              · obtain ⟨x, h1, h2⟩ := ih (k + 1)
                exact ⟨x, h1, by omega⟩
          exact gen r (k + 1)
        have := ht.2 (x : Int) (List.mem_map.mpr ⟨x, hx.1, rfl⟩)
        omega
      refine ⟨t, ht, ?_⟩
      have q' : idleL (max m ((k : Int) + 1)) ((k : Int) + 1) r = max (max m ((k : Int) + 1)) t := by
        have := q
        push_cast at this
        exact this
      rw [q']
      omega
    · rw [if_pos e, if_neg (by omega)]
      obtain ⟨t, ht, q⟩ := idle_max r hr 0 (max m 0) (by omega)
      refine ⟨max (k : Int) t, ⟨?_, fun x hx => ?_⟩, ?_⟩
      · rw [List.map_cons]
        by_cases hkt : (k : Int) ≤ t
        · rw [Int.max_eq_right hkt]
          exact List.mem_cons_of_mem _ ht.1
        · rw [Int.max_eq_left (by omega)]
          exact List.mem_cons_self
      · rw [List.map_cons] at hx
        rcases List.mem_cons.mp hx with z | z
        · omega
        · have := ht.2 x z
          omega
      · have q' : idleL (max m 0) 0 r = max (max m 0) t := by
          have := q
          push_cast at this
          exact this
        rw [q']
        omega
theorem idle_is {l : List Nat} (hp : Pure l) {t : Int} (ht : IsMax t ((runL 0 l).map (fun (n : Nat) => (n : Int)))) : idleL 0 0 l = t := by
  obtain ⟨u, hu, q⟩ := idle_max l hp 0 0 (Int.le_refl _)
  have e := hu.eq ht
  subst e
  have h0 : 0 ≤ u := by
    obtain ⟨n, _, e⟩ := List.mem_map.mp hu.1
    omega
  have q' : idleL 0 0 l = max 0 u := q
  rw [q']
  omega

/-! ### sums along a row -/
/-- the sums ahead of each place and at the end, from h on -/
def sumL : Int → List Nat → List Int
  | h, [] => [h]
  | h, c :: r => h :: sumL (if c = 49 then h + 1 else h - 1) r
def step (h : Int) (c : Nat) : Int := if c = 49 then h + 1 else h - 1
def endS (l : List Nat) : Int := l.foldl step 0
/-- the highest, the lowest of them, led along -/
def hiS (l : List Nat) : Int × Int × Int := l.foldl (fun st c => let h := step st.1 c; (h, (if h > st.2.1 then h else st.2.1), (if h < st.2.2 then h else st.2.2))) (0, 0, 0)
theorem hiS_snoc (l : List Nat) (c : Nat) : hiS (l ++ [c]) = (step (hiS l).1 c, (if step (hiS l).1 c > (hiS l).2.1 then step (hiS l).1 c else (hiS l).2.1), (if step (hiS l).1 c < (hiS l).2.2 then step (hiS l).1 c else (hiS l).2.2)) := by
  unfold hiS
  rw [List.foldl_append]
  rfl
theorem take_snoc {l : List Nat} {i c : Nat} (h : l[i]? = some c) : l.take (i + 1) = l.take i ++ [c] := by
  rw [List.take_add_one, h]
  rfl
/-- all sums of the beginnings -/
def sums (l : List Nat) : List Int := (List.range (l.length + 1)).map fun i => (hiS (l.take i)).1
theorem sums_len (l : List Nat) : (sums l).length = l.length + 1 := by simp [sums]
theorem hiS_top (l : List Nat) : IsMax (hiS l).2.1 (sums l) ∧ ((hiS l).2.2 ∈ sums l ∧ ∀ x ∈ sums l, (hiS l).2.2 ≤ x) := by
  have gen : ∀ n, n ≤ l.length → IsMax (hiS (l.take n)).2.1 ((List.range (n + 1)).map fun i => (hiS (l.take i)).1) ∧
      ((hiS (l.take n)).2.2 ∈ ((List.range (n + 1)).map fun i => (hiS (l.take i)).1) ∧ ∀ x ∈ ((List.range (n + 1)).map fun i => (hiS (l.take i)).1), (hiS (l.take n)).2.2 ≤ x) := by
    intro n
    induction n with
    | zero =>
      intro _
      simp [IsMax, hiS]
    | succ n ih =>
      intro hn
      obtain ⟨⟨a1, a2⟩, b1, b2⟩ := ih (by omega)
      have hg : l[n]? = some l[n] := List.getElem?_eq_getElem (by omega)
      have e : (List.range (n + 1 + 1)).map (fun i => (hiS (l.take i)).1) = ((List.range (n + 1)).map fun i => (hiS (l.take i)).1) ++ [(hiS (l.take (n + 1))).1] := by
        rw [List.range_succ, List.map_append]
        rfl
      have e2 := hiS_snoc (l.take n) l[n]
      rw [← take_snoc hg] at e2
      have f1 : (hiS (l.take (n + 1))).1 = step (hiS (l.take n)).1 l[n] := by rw [e2]
      have f2 : (hiS (l.take (n + 1))).2.1 = if step (hiS (l.take n)).1 l[n] > (hiS (l.take n)).2.1 then step (hiS (l.take n)).1 l[n] else (hiS (l.take n)).2.1 := by rw [e2]
      have f3 : (hiS (l.take (n + 1))).2.2 = if step (hiS (l.take n)).1 l[n] < (hiS (l.take n)).2.2 then step (hiS (l.take n)).1 l[n] else (hiS (l.take n)).2.2 := by rw [e2]
      rw [e, f2, f3]
      have f1' := f1
      generalize hh : step (hiS (l.take n)).1 l[n] = h at *
      rw [f1']
      refine ⟨⟨?_, fun x hx => ?_⟩, ?_, fun x hx => ?_⟩
      · split
        · exact List.mem_append_right _ (by simp)
        · exact List.mem_append_left _ a1
      · rcases List.mem_append.mp hx with z | z
        · have := a2 x z
          split <;> omega
        · obtain rfl : x = h := by simpa using z
          split <;> omega
      · split
        · exact List.mem_append_right _ (by simp)
        · exact List.mem_append_left _ b1
      · rcases List.mem_append.mp hx with z | z
        · have := b2 x z
          split <;> omega
        · obtain rfl : x = h := by simpa using z
          split <;> omega
  have := gen l.length (Nat.le_refl _)
  rw [List.take_length] at this
  exact this
/-- what is at least as far as all two sums are apart, and is so far itself, is the swing -/
theorem swing_is {l : List Nat} {m : Int} (h1 : ∀ a ∈ sums l, ∀ b ∈ sums l, b - a ≤ m) (h2 : ∃ a ∈ sums l, ∃ b ∈ sums l, m = b - a ∨ m = a - b) : m = (hiS l).2.1 - (hiS l).2.2 := by
  obtain ⟨⟨a1, a2⟩, b1, b2⟩ := hiS_top l
  have g1 := h1 _ b1 _ a1
  obtain ⟨a, ha, b, hb, e⟩ := h2
  have c1 := a2 a ha
  have c2 := a2 b hb
  have c3 := b2 a ha
  have c4 := b2 b hb
  rcases e with e | e <;> omega
end Pw

set_option Elab.async false
set_option linter.all false
set_option maxRecDepth 100000
set_option maxHeartbeats 2000000
/-! a try with several clauses, where the context of what is raised is None -/
namespace Pw
open PySem PySem.Spec PyProof.Rows L2
inductive AsOkN (X : Cx) (n : Str) : List ExceptHandler → List (Value × (Addr → Value → Option Addr → TS)) → Prop
  | nil : AsOkN X n [] []
  | cons {x : Str} {c : Value} {ts : Addr → Value → Option Addr → TS} {b0 : Stmt} {su : List Stmt} {p1 p2 : Pos} {hs : List ExceptHandler} {l : List (Value × (Addr → Value → Option Addr → TS))} (hc : Names X x c)
      (hsu : ∀ (a : Addr) (oe : Obj) (cls : Value) (dd : Option Addr) (pn : List (Addr × Obj)), L2N.Zn cls dd oe → (∃ vs, oe.data = .fields vs) → PSs (X.suite a ((a, oe) :: pn)) (b0 :: su) (ts a cls dd)) (r : AsOkN X n hs l) :
      AsOkN X n (.ExceptHandler (some (.Name x p1)) (some n) (b0 :: su) p2 :: hs) ((c, ts) :: l)
section
variable {X : Cx} {n : Str} {i : Nat} {body : List Stmt} {h0 : ExceptHandler} {hds : List ExceptHandler} {l : List (Value × (Addr → Value → Option Addr → TS))} {pos : Pos} {tb : WX → TS} {Wo : WX}
theorem ps_tryAllN (hs : X.stack = X.env :: X.outer) (hf : X.env.frame = some X.env.locals) (hN : X.N.Nodup) (hi : X.N[i]? = some n) (hln : X.env.kindOf n = some .local) (tk : L2N.Takes X Wo)
    (hb : ∀ (W : WX) (pn : List (Addr × Obj)) (xe : Value → Shared → Prop), L2N.Takes (X.tr pn xe) W → PassesOwn (model X.prog X.w) X.A X.env xe → PSs (X.tr pn xe) body (tb W))
    (hh : AsOkN X n (h0 :: hds) l) : PS X (.Try body (h0 :: hds) [] [] pos) (fun D τ G => tb (wAll X.K i Wo D l) D τ G) := by
  refine ⟨fun pns s τ G D I h => ?_⟩
  have xok := I.ok
  have xfr : X.A.frames = some (X.env :: X.outer) := by rw [xok.frames, hs]
  have xloc : Loc X.env.scope n := .inl hln
  refine wpAny_Try_except (wpAny_mono ((hb (wAll X.K i Wo D l) (X.pn ++ pns) (fun e s1 => wpAny (model X.prog X.w) X.A (noteFrame e X.env) (fun _ s2 => wpAny (model X.prog X.w) X.A (setFlight e none) (fun _ s3 =>
    wpAny (model X.prog X.w) X.A (handleBy e X.env (h0 :: hds)) (SP X pns D) X.xe s3) X.xe s2) X.xe s1) (fun u s' xx => ?_) PassesOwn.looking).run [] s τ G D (I.toTry _) h) (fun f s1 hsp => ?_) (fun e s1 he => he))
  · obtain ⟨a, B, sI, pns', τ', G', cls, dd, rfl, Jt, nb, up, sky, na, os, ag, ww⟩ := xx
    have J : Inv X pns τ' G' sI := Jt.ofTry xok
    have sky1 : Sky B (X.env :: X.outer) a (L2N.Zn cls dd) X.env.locals s'.heap := by rw [← hs]; exact sky
    show wpAny (model X.prog X.w) X.A (noteFrame (.ref a) X.env) _ _ _
    refine L2N.Sky.land L2N.Zn.steady xfr hf sky1 fun k3 fl3 up3 => ?_
    have J3 : Inv X pns τ' G' { s' with heap := k3 } := J.landed nb fl3.1 (up.trans up3) os ag
    obtain ⟨ob3, vs3, he3, hz3, hd3⟩ := fl3.there
    have nfr : a ∉ frs (X.env :: X.outer) := fun hm => by
      obtain ⟨_, oo, ee, hnf⟩ := fl3.2.2.1.mem hm
      rw [he3] at ee
      cases ee
      exact hnf _ hd3
    have nL : a ≠ X.env.locals := fun z => nfr (List.mem_filterMap.mpr ⟨X.env, List.mem_cons_self, by rw [hf, z]⟩)
    have nF : a ∉ X.fs := fun hm => by
      obtain ⟨e, he, qq⟩ := List.mem_filterMap.mp hm
      exact nfr (List.mem_filterMap.mpr ⟨e, List.mem_cons_of_mem _ he, qq⟩)
    have S3 := J3.suite he3 hd3 na nL nF
    have go : ∀ {hs' : List ExceptHandler} {l' : List (Value × (Addr → Value → Option Addr → TS))}, AsOkN X n hs' l' → wAll X.K i Wo D l' cls dd τ' G' →
        wpAny (model X.prog X.w) X.A (handleBy (.ref a) X.env hs') (SP X pns D) X.xe { s' with heap := k3 } := by
      intro hs' l' hk
      induction hk with
      | nil =>
        intro ww
        refine wpAny_handleBy_nil ?_
        obtain ⟨_, _, _, ob, vs, T, oT, ts', he, hz, hd, h1, hr⟩ := id fl3
        unfold PySem.passOn
        refine wpAny_bind (wpAny_field he hd h1 ?_)
        rw [if_neg (show ¬ ((Value.ref T == Value.none) = true) from by simp)]
        have fin : wpAny (model X.prog X.w) X.A (setFlight (.ref a) X.env.frame) (fun _ s4 => wpAny (model X.prog X.w) X.A (throw (.ref a) : Sem Flow) (SP X pns D) X.xe s4) X.xe { s' with heap := k3 } := by
          rw [hf]
          exact HandSPX.setFlight_upZ fl3 fun k4 hh4 up4 => wpAny_throw (tk _ _ ⟨a, B, sI, pns, τ', G', cls, dd, rfl, J, nb, (up.trans up3).trans up4, .inr (.inr (by rw [hs]; exact hh4)), na, os, ag, ww⟩)
        first
          | exact wpAny_bind (wpAny_pure (wpAny_bind fin))
          | exact wpAny_bind fin
      | @cons x c ts b0 su p1 p2 hs2 l2 hc hsu r ih =>
        intro ww
        obtain ⟨b, hb1, hyes, hno⟩ := ww
        refine wpAny_handleBy_cons (codeAny_handlers_test ?_) (by intro q; cases q)
        have LT : PySem.W.Looks (model X.prog X.w) k3 (typeOf (.ref a)) cls := fun A Q E s k q => wpAny_typeOf_ref (k _ _ he3) (by rw [hz3.1]; exact q)
        have LM := PySem.W.exm_one (M := model X.prog X.w) (J3.kIn) LT hb1
        have test : ∀ {Q : Value → Shared → Prop} {E : Value → Shared → Prop}, Q c { s' with heap := k3 } → wpAny (model X.prog X.w) (X.A.mark (some (.ref a))) (eval (.Name x p1) X.env) Q E { s' with heap := k3 } := fun {Q E} q => by
          obtain ⟨hg, hdbg, hm | ⟨hm, hv, hnn⟩⟩ := hc
          · exact ld_glob (X := X.suite a ((a, ob3) :: (X.pn ++ pns))) S3 hg hm q hdbg
          · exact ld_blt (X := X.suite a ((a, ob3) :: (X.pn ++ pns))) S3 hg hm hv q hnn hdbg
        refine test (LM.here ?_)
        cases b with
        | true =>
          refine codeAny_handlers_suite_as ?_
          refine HandSPX.lands_againZ fl3 fun k4 fl4 up4 => ?_
          have J4 : Inv X pns τ' G' { s' with heap := k4 } := J.landed nb fl4.1 ((up.trans up3).trans up4) os ag
          obtain ⟨ob4, vs4, he4, hz4, hd4⟩ := fl4.there
          have S4 := J4.suite he4 hd4 na nL nF
          refine store_ok (X := X.suite a ((a, ob4) :: (X.pn ++ pns))) (v := .ref a) S4 hN hi xloc rfl (fun s5 S5 => ?_) (.inr hln)
          refine wpAny_mono ((hsu a ob4 cls dd (X.pn ++ pns) hz4 ⟨_, hd4⟩).run [] s5 _ G' _ S5 (hyes rfl a na)) (fun f s6 hsp => ?_) (fun _ _ z => False.elim z)
          have en : ∀ {τ6 : L2.St} {G6 : Hp} {Q : Shared → Prop}, Inv (X.suite a ((a, ob4) :: (X.pn ++ pns))) [] τ6 G6 s6 → (∀ s7, Inv X pns (τ6.set i none) G6 s7 → Q s7) →
              wpAny (model X.prog X.w) X.A (do bindName X.env n .none; unbindBehindTheSuite X.env n p2) (fun _ s7 => Q s7) X.xe s6 := fun {τ6 G6 Q} S6 hq => gone_ok (S6.unsuite xok) hN hi hln hq
          cases f with
          | next =>
            obtain ⟨τ6, G6, S6, q6⟩ := hsp
            exact en S6 fun s7 J7 => ⟨_, _, J7, q6⟩
          | brk =>
            obtain ⟨τ6, G6, S6, q6⟩ := hsp
            exact en S6 fun s7 J7 => ⟨_, _, J7, q6⟩
          | cont =>
            obtain ⟨τ6, G6, S6, q6⟩ := hsp
            exact en S6 fun s7 J7 => ⟨_, _, J7, q6⟩
          | ret u =>
            obtain ⟨v6, τ6, G6, S6, r6, q6⟩ := hsp
            exact en S6 fun s7 J7 => ⟨_, _, _, J7, r6, q6⟩
        | false =>
          show wpAny _ X.A (handleBy (.ref a) X.env hs2) _ _ _
          exact ih (hno rfl)
    exact go hh ww
  · cases f with
    | next =>
      obtain ⟨τ', G', Jt, q⟩ := hsp
      exact wpAny_execs_nil ⟨τ', G', Jt.ofTry xok, q⟩
    | brk =>
      obtain ⟨τ', G', Jt, q⟩ := hsp
      exact ⟨τ', G', Jt.ofTry xok, q⟩
    | cont =>
      obtain ⟨τ', G', Jt, q⟩ := hsp
      exact ⟨τ', G', Jt.ofTry xok, q⟩
    | ret u =>
      obtain ⟨v, τ', G', Jt, r, q⟩ := hsp
      exact ⟨v, τ', G', Jt.ofTry xok, r, q⟩
end
end Pw

set_option Elab.async false
set_option linter.all false
set_option maxRecDepth 100000
set_option maxHeartbeats 2000000
namespace Pw
open PySem PySem.Spec PyProof.Rows L2 LamX
/-- the context of a lambda's body -/
abbrev lamCxN (X : Cx) (A : Around) (outer : List Env) (s : Shared) (H : Hp) (E : XK) (scope : Scope) (f c' : Addr) : Cx := (lamCx X A outer s H E scope f c').tr []
  fun e s' => wpAny (model X.prog X.w) (A.deeper (lamEnv X scope s.heap.objs.size f c')) (leaving (lamEnv X scope s.heap.objs.size f c') e) (fun _ s2 => L2N.CX X.prog X.w outer H s E e s2) (fun e' s2 => L2N.CX X.prog X.w outer H s E e' s2) s'
section
variable {X : Cx} {pins : List (Addr × Obj)} {σ : L2.St} {H HZ : Hp} {s s1 : Shared}
/-- x() in the def that got the lambda; what the lambda lets out is wished for at the slots as they stand -/
theorem pe_actWN {CXg : CXT} {Eg : XK} {Ng : List Str} {qg : Str} {sg : Scope} {g f c' : Addr} {cdg pm ctv : Value} {params : Arguments} {body : Expr} {scope : Scope} {k i : Nat} {a : Str} {pn : List (Addr × Obj)} {xe : Value → Shared → Prop} {W : WX} {tb : XK → TE} {p1 p2 : Pos}
    (I : Inv X pins σ H s) (L : LamS X.env.scope scope) (hf : s.heap.get? f = some (PySem.W.kla_obj "<lambda>" (X.env.qual ++ "<lambda>") params body scope (cloFrom X.env.cells scope.names []) pm c' ctv)) (hfn : H f = none) (hfr : f ∉ frs X.stack)
    (hbind : bindArgs (PySem.W.kla_fn "<lambda>" (X.env.qual ++ "<lambda>") params body scope (cloFrom X.env.cells scope.names []) pm (.ref c') ctv) ⟨[], []⟩ = pure [])
    (tk : L2N.Takes ((cxOf CXg X.prog X.w X.K X.mg X.base Ng qg sg g cdg X.A X.stack s H Eg).tr pn xe) W) (hr : Room (k + 1) (X.A.deeper (envOfC qg sg s.heap.objs.size g cdg)))
    (hbody : ∀ (A : Around) (outer : List Env) (s : Shared) (H : Hp) (E : XK), Room k (A.deeper (lamEnv X scope s.heap.objs.size f c')) → PE (lamCxN X A outer s H E scope f c') body (tb E))
    (hN : Ng[i]? = some a) (hv : Vis sg a) (hd : (a == ("__debug__" : Str)) = false := by decide) (hcd : (a == ("__classdict__" : Str)) = false := by decide) :
    PE ((cxOf CXg X.prog X.w X.K X.mg X.base Ng qg sg g cdg X.A X.stack s H Eg).tr pn xe) (.Call (.Name a p1) [] [] p2)
      (fun σZ HZ Q => ∃ (E : XK) (Q' : VK), (∀ cls dd G, E cls dd G → W cls dd σZ G) ∧ (∀ v G, Q' v G → Q v G) ∧ σZ[i]? = some (some (.ref f)) ∧ HZ c' = some (CodeO c' (X.env.qual ++ "<lambda>")) ∧ tb E σ HZ Q') := by
  refine ⟨fun pZ sZ σZ HZ Q IZ h => ?_⟩
  obtain ⟨E, Q', hE, hQ, hs, hc, ht⟩ := h
  refine wpAny_Call_Name_kw (thn ((pe_var (pos := p1) (i := i) hN hv hd hcd).run pZ sZ σZ HZ (fun v H1 => v = .ref f ∧ H1 = HZ) IZ ⟨.ref f, hs, rfl, rfl⟩) fun u s1 ⟨v, H1, I1, r1, q1⟩ => ?_)
  obtain ⟨ev, eH⟩ := q1
  subst ev
  rw [eH] at I1
  obtain rfl : u = Value.ref f := r1
  have of1 : s1.heap.get? f = some (PySem.W.kla_obj "<lambda>" (X.env.qual ++ "<lambda>") params body scope (cloFrom X.env.cells scope.names []) pm c' ctv) := I1.base.keep f _ hf hfn hfr (fun z => nomatch (show f ∈ ([] : List Addr) from z))
  refine PySem.W.callWith_F0 ⟨_, _, _, _, of1⟩ ?_
  have un1 : Un (frs X.stack) [] H HZ s.heap s1.heap := I1.base
  obtain ⟨⟨oc, vs, t, hoc, hdc, hvc⟩, _, _⟩ := I1.hok c' _ hc
  have rc : codeAny (model X.prog X.w) (X.A.deeper (envOfC qg sg s.heap.objs.size g cdg)) (.call (.ref f) ⟨[], []⟩) (CR (L2N.CX X.prog X.w) (envOfC qg sg s.heap.objs.size g cdg :: X.stack) X.prog X.w HZ s1 Q' E) s1 := by
    refine PySem.W.kla_callFunE hr.depth of1 rfl L.co L.gen rfl ⟨c', oc, vs, t, rfl, hoc, hdc, hvc⟩ ?_
    rw [hbind]
    refine wpAny_pure (wpAny_newFunctionEnv (fun y hy => (L.own y hy).2) (fun y hy => absurd hy (by simp)) (fun h₁ hns hsb => ⟨I1.nolimit.fresh _ hsb, ?_⟩) L.kind)
    show codeAny _ _ (.expr body (lamEnv X scope s1.heap.objs.size f c')) _ _
    have kp : ∀ b o, s1.heap.get? b = some o → h₁.get? b = some o := fun b o e => hsb.extBut b o (Nat.ne_of_lt (Heap.lt_size e)) (Heap.get?_push_of_some _ e)
    have J : Inv (lamCxN X (X.A.deeper (envOfC qg sg s.heap.objs.size g cdg)) (envOfC qg sg s.heap.objs.size g cdg :: X.stack) s1 HZ E scope f c') [] σ HZ { s1 with heap := h₁, toks := s1.toks + ([] : List (Str × Value)).length } := (lam_start2 I L I1.env0 hr.hd un1 hns kp).toTry _
    refine PySem.W.kla_codeExpr (wpAny_mono ((hbody _ _ s1 HZ E (hr.deeper _)).run [] _ _ HZ Q' J ht) (fun v s' hq => ?_) fun e s' hq => hq)
    obtain ⟨w', G, J', rv, q⟩ := hq
    exact ⟨w', G, J'.os, J'.bare, J'.base, J'.hok, rv, q⟩
  refine wpAny_call (codeAny_mono rc fun r s' hq => ?_)
  cases r with
  | error e => exact tk e s' (L2N.XE.of_call I1 hE hq)
  | ok fl =>
    cases fl with
    | ret u =>
      obtain ⟨v, G, J, rv, q⟩ := I1.after hq
      exact ⟨v, G, J, rv, hQ v G q⟩
    | next => exact False.elim hq
    | brk => exact False.elim hq
    | cont => exact False.elim hq
end
/-- the def g(a) that calls what it got -/
def GivesWN (X : Cx) (Ng : List Str) (x : Str) (sg : Scope) (g : Addr) (cdg : Value) (bg : List Stmt) (a : Str) (q : Str) (TT : (XK → Hp → VK → Prop) → Hp → VK → Prop) : Prop :=
  ∀ (f c' : Addr) (s : Shared) (H : Hp) (Q : VK) (tl : XK → Hp → VK → Prop),
    (∀ (W : WX) (pn : List (Addr × Obj)) (xe : Value → Shared → Prop) (p1 p2 : Pos), L2N.Takes ((cxOf C8.CX0 X.prog X.w X.K X.mg X.base Ng x sg g cdg X.A X.stack s H C8.E0).tr pn xe) W →
      PE ((cxOf C8.CX0 X.prog X.w X.K X.mg X.base Ng x sg g cdg X.A X.stack s H C8.E0).tr pn xe) (.Call (.Name a p1) [] [] p2)
        (fun σZ HZ Q => ∃ (E : XK) (Q' : VK), (∀ cls dd G, E cls dd G → W cls dd σZ G) ∧ (∀ v G, Q' v G → Q v G) ∧ σZ[0]? = some (some (.ref f)) ∧ HZ c' = some (CodeO c' q) ∧ tl E HZ Q')) →
    H c' = some (CodeO c' q) → TT tl H Q →
    ∃ t, PSs (cxOf C8.CX0 X.prog X.w X.K X.mg X.base Ng x sg g cdg X.A X.stack s H C8.E0).nox bg t ∧ t { nx := fun _ G => Q .non G, rt := Q } (L2.start Ng [.ref f]) H
section
variable {X : Cx}
/-- g(lambda: body) -/
theorem pe_lamWN {T : List (Addr × Str)} {TT : (XK → Hp → VK → Prop) → Hp → VK → Prop} {x a : Str} {g c P : Addr} {k : Nat} {pg : Arguments} {bg : List Stmt} {sg : Scope} {dV kV doc pm cdv ct oc : Value} {an od : Option Addr} {osl : Array (Option Value)} {Ng : List Str}
    {params : Arguments} {body : Expr} {scope : Scope} {t : XK → TE} {p lpos pos : Pos} (hg : Gl X x) (hm : X.mg x = some (.ref g)) (hk : PySem.W.keepIn X.K (.ref g) = true)
    (lk : X.K.lookup g = some ⟨oc, od, .func (PySem.W.fnOf x x pg bg sg dV kV doc pm an cdv ct), osl⟩) (hcg : PySem.W.codeIn X.K cdv x = true) (hb : L2.Binds X.K (PySem.W.fnOf x x pg bg sg dV kV doc pm an cdv ct) [a] []) (Sg : FnScope Ng [a] sg) (hNg : Ng[0]? = some a) (hva : Vis sg a)
    (hG : GivesWN X Ng x sg g cdv bg a (X.env.qual ++ "<lambda>") TT)
    (TB : TabB X.base X.mg c P) (hcode : X.env.code = .ref c) (hmT : (P, X.env.qual ++ "<lambda>") ∈ T) (hu : ∀ p ∈ T, p.1 = P → p.2 = X.env.qual ++ "<lambda>") (hr : Room (k + 2) X.A) (L : LamS X.env.scope scope) (hdef : defaultsOf params X.env = ([], []))
    (hbind : ∀ (q : Str) (cl : List (Str × Addr)) (pm cv ctv : Value), bindArgs (PySem.W.kla_fn "<lambda>" q params body scope cl pm cv ctv) ⟨[], []⟩ = pure [])
    (hbody : ∀ (A : Around) (outer : List Env) (s : Shared) (H : Hp) (E : XK) (f c' : Addr), Room k (A.deeper (lamEnv X scope s.heap.objs.size f c')) → PE (lamCxN X A outer s H E scope f c') body (t E))
    (hdb : (x == ("__debug__" : Str)) = false := by decide) (hd : (a == ("__debug__" : Str)) = false := by decide) (hcd : (a == ("__classdict__" : Str)) = false := by decide) :
    PE X (.Call (.Name x p) [.Lambda params body scope lpos] [] pos) (tLam T TT t) := by
  refine ⟨fun pns s τ G Q I h => ?_⟩
  obtain ⟨hT, h⟩ := h
  refine wpAny_Call_Name_kw (ld_glob I hg hm (PySem.W.callWith_K (h₀ := X.base) I.ok.mod.kin hk ?_ (by rfl) (by rfl)) hdb)
  show wpAny _ _ (spliced ((false, eval (.Lambda params body scope lpos) X.env) :: backTo pos (starEach [] X.env))) _ _ s
  refine Calls.spliced_cons (lam_make2 I TB hcode hmT hu hT hdef (L.has I.ok) fun f c' pm' ctv H1 s' I1 eN T1 hf hfn hfr hco => Calls.spliced_nil ⟨I1.kIn, ?_⟩)
  have rc : codeAny (model X.prog X.w) X.A (.call (.ref g) ⟨[.ref f], []⟩) (CR C8.CX0 X.stack X.prog X.w H1 s' Q C8.E0) s' := by
    refine run_ofS (N := Ng) (ps := [a]) (us := [.ref f]) (vs := [.ref f]) lk hcg Sg hr I1.env0 (hb s' [.ref f] I1.kIn rfl) (.cons rfl .nil) rfl fun hr' => ?_
    obtain ⟨t', ht', hq'⟩ := hG f c' s' H1 Q (fun E G' Q' => t E τ G' Q') (fun W pn xe p1 p2 tk => pe_actWN (i := 0) I1 L hf hfn hfr (hbind _ _ _ _ _) tk hr' (fun A outer s H E hr2 => hbody A outer s H E f c' hr2) hNg hva hd hcd) hco (h H1 eN T1)
    exact ⟨t', ht'.nox, hq'⟩
  refine wpAny_call (codeAny_mono rc fun r s2 hq => ?_)
  cases r with
  | error e => exact (show False from hq).elim
  | ok fl =>
    cases fl with
    | ret u => exact I1.after hq
    | next => exact False.elim hq
    | brk => exact False.elim hq
    | cont => exact False.elim hq
theorem why_givesN {x a tn wn en q : Str} {sg : Scope} {g : Addr} {cdg : Value} {j1 j2 : Nat} {j3 : Nat} {h0 : ExceptHandler} {hds : List ExceptHandler} {l : List (Value × (Addr → Value → Option Addr → TS))} {p1 p2 p3 p4 p5 p6 p7 p8 p9 p10 p11 p12 p13 p14 p15 : Pos}
    (S : FnScope [a, tn, wn, en] [a] sg) (k1 : sg.names.lookup tn = some .local) (k2 : sg.names.lookup wn = some .local) (k3 : sg.names.lookup en = some .local)
    (d1 : (tn == ("__debug__" : Str)) = false) (d2 : (tn == ("__classdict__" : Str)) = false) (d3 : (wn == ("__debug__" : Str)) = false) (d4 : (wn == ("__classdict__" : Str)) = false)
    (hcl : ∀ (s : Shared) (H : Hp), AsOkN (cxOf C8.CX0 X.prog X.w X.K X.mg X.base [a, tn, wn, en] x sg g cdg X.A X.stack s H C8.E0).nox en (h0 :: hds) l) :
    GivesWN X [a, tn, wn, en] x sg g cdg [.Assign [.Name tn p1] (.Constant .none j1 p2) p3, .Assign [.Name wn p4] (.Constant (.str "") j2 p5) p6, .Try [.Assign [.Name tn p7] (.Call (.Name a p8) [] [] p9) p10] (h0 :: hds) [] [] p11, .Return (some (.Tuple [.Name tn p12, .Name wn p13] j3 p14)) p15] a q (TTwhy X.K l) := by
  intro f c' s H Q tl act hc h
  obtain ⟨E, Q', hE, hQ, h⟩ := h
  refine ⟨_, pss_cons (ps_set (i := 1) S.nd rfl (.inl k1) pe_non) (pss_cons (ps_set (i := 2) S.nd rfl (.inl k2) pe_str)
    (pss_cons (ps_tryAllN (i := 3) (n := en) (Wo := fun _ _ _ _ => False) (tb := fun W => tAsg (fun σZ HZ Q => ∃ (E : XK) (Q' : VK), (∀ cls dd G, E cls dd G → W cls dd σZ G) ∧ (∀ v G, Q' v G → Q v G) ∧ σZ[0]? = some (some (.ref f)) ∧ HZ c' = some (CodeO c' q) ∧ tl E HZ Q') (gName 1)) rfl rfl S.nd rfl k3
      (fun _ _ z => by obtain ⟨_, _, _, _, _, _, _, _, _, _, _, _, _, _, _, _, z⟩ := z; exact z.elim)
      (fun W pn xe tk _ => pss_one (ps_set (i := 1) S.nd rfl (.inl k1) (act W pn xe p8 p9 tk))) (hcl s H))
    (pss_one (ps_ret (pe_tup (pa_cons (pe_var (i := 1) rfl (.inl k1) d1 d2) (pa_cons (pe_var (i := 2) rfl (.inl k2) d3 d4) pa_nil))))))), ?_⟩
  refine ⟨E, Q', fun cls dd G e => hE f cls dd G e, fun v G q => ?_, rfl, hc, h⟩
  exact ⟨v, rfl, .str "", rfl, by show 2 ≤ sizeLine; decide, fun p hp => hQ v G q p hp⟩
end
end Pw

set_option Elab.async false
set_option linter.all false
set_option maxRecDepth 100000
set_option maxHeartbeats 4000000
/-! raising, where the context of what is raised is None -/
open PySem PySem.Spec PyProof.Rows L2 in
theorem L2.Fun.okXN {P : Program} {w : World} {K : PySem.W.Frag} {mg : Str → Option Value} {base : Heap} {x qual : Str} {st : Stmt} {f : Addr} {fd : FuncData} {N ps : List Str} {k : Nat} {sp : Sp} (F : Fun K x qual st f fd) (S : FnScope N ps (defScope st)) (len : ∀ vs H Q E, sp vs H Q E → vs.length = ps.length)
    (body : ∀ (cdv : Value) (A : Around) (outer : List Env) (s : Shared) (H : Hp) (vs : List V) (Q : VK) (E : XK), Room k (A.deeper (envOfC qual (defScope st) s.heap.objs.size f cdv)) → sp vs H Q E → ∃ t, PSs (cxOf (L2N.CX P w) P w K mg base N qual (defScope st) f cdv A outer s H E) (defBody st) t ∧ t { nx := fun _ G => Q .non G, rt := Q } (start N vs) H) :
    FnOk P w K mg base (L2N.CX P w) (k + 1) f fd ps sp := by
  obtain ⟨_, _, _, _, _, _, cdv, _, _, rfl, lk, hc⟩ := F.ex
  exact fn_of lk hc S len fun A outer s H vs Q E r h => body cdv A outer s H vs Q E r h
namespace Pw
open PySem PySem.Spec PyProof.Rows L2
theorem passLN {X : Cx} : Passes (L2N.CX X.prog X.w) X E0 := fun _ _ _ _ _ _ _ h => by
  obtain ⟨_, _, _, _, _, _, _, _, _, _, _, _, z⟩ := h
  exact z.elim
section
variable {X : Cx}
theorem mk_endN {pns : List (Addr × Obj)} {τ : L2.St} {G1 G2 : Hp} {Q : XK} {hp hp2 h2 : Heap} {g1 g2 : Array GenState} {d1 d2 : Drawn} {t1 t2 : Nat} {o1 o2 : OsState} {a C d : Addr} {fs : List (Str × V)} (T : Raises X (.ref C)) (I1 : Inv X pns τ G1 ⟨hp, g1, d1, t1, o1⟩)
    (ha : hp.objs.size ≤ a) (k : ∀ b o, hp.get? b = some o → hp2.get? b = some o) (un : Un (frs X.stack) [] (upd G1 a (exo a C none)) G2 hp2 h2) (hok : HOk X.prog X.w G2 h2) (ho : o2 = o1) (hb : AllBare g2)
    (ea : G2 a = some (exo a C (some d))) (ed : G2 d = some (exd d fs)) (hd1 : G1 d = none) (q : Q (.ref C) (some d) (upd (del G2 a) d (.xd fs))) : L2N.MkP X pns τ Q (.ref a) ⟨h2, g2, d2, t2, o2⟩ := by
  obtain ⟨t0, H0, J, kG, ge, hoe, na⟩ := mk_end0 (d2 := d2) (t2 := t2) I1 ha k un hok ho hb ea ed hd1
  exact ⟨a, _, _, ⟨H0, g2, d2, t2, o2⟩, _, .ref C, some d, rfl, J, kG, ge, hoe, ⟨rfl, rfl, fun vs e => by cases e; rfl⟩, rfl, rfl, na, rfl, hb, T, q⟩
theorem pmk_oexN {CX : CXT} {x : Str} {C fI : Addr} {k : Nat} {fd : FuncData} {ps : List Str} {sp : Sp} {ds : List Value} {dvs : List V} {e : Expr} {es : List Expr} {ta : TA} {p pos : Pos} (T : OexC X.K C) (iC : PySem.W.findIn X.K (.ref C) "__init__" = some (some (.ref fI))) (tI : PySem.W.typeIn X.K (.ref fI) = some (.type "function"))
    (F1 : FnOk X.prog X.w X.K X.mg X.base CX k fI fd ps sp) (hr : Room (k + 1) X.A) (hb : Binds X.K fd ps ds) (hd : Vals dvs ds) (hx : Passes CX X (fun _ _ _ => False)) (hg : Gl X x) (hm : X.mg x = some (.ref C)) (ha : PA X (e :: es) ta)
    (hdb : (x == ("__debug__" : Str)) = false := by decide) (he : starEach (e :: es) X.env = (false, eval e X.env) :: starEach es X.env := by rfl) (hpl : (backTo pos (starEach es X.env)).any (·.1) = false := by rfl) :
    L2N.PMk X (.Call (.Name x p) (e :: es) [] pos) (tMkO C sp dvs ta) := by
  intro pns r τ G Q I h
  obtain ⟨nm, q, N, bs, bm, sn, sub, ab, col, dd, k0, k1, k2, k3, k5, hC, hbm⟩ := T.cls
  refine wpAny_Call_Name_kw (ld_glob I hg hm (PySem.W.callWith_K (h₀ := X.base) I.ok.mod.kin T.kC (thn (ha.run pos pns r τ G _ I h) fun us r1 ⟨vs, G1, I1, rv, hz, q1⟩ => ⟨I1.kIn, ?_⟩) he hpl) hdb)
  show wpAny _ _ (call (.ref C) us) _ _ _
  obtain ⟨hp, g, dr, tk, os⟩ := r1
  have le1 : hp.objs.size ≤ hp.objs.size + 1 := Nat.le_succ _
  have n1 : G1 (hp.objs.size + 1) = none := I1.hok.fresh le1
  have h1 := q1 (hp.objs.size + 1) n1
  have keep : ∀ b o, hp.get? b = some o → ((hp.push (PySem.W.kdv_tup us)).push (PySem.HandSPX.excO C hp.objs.size)).get? b = some o := fun b o k => Heap.get?_push_of_some _ (Heap.get?_push_of_some _ k)
  have at1 : ((hp.push (PySem.W.kdv_tup us)).push (PySem.HandSPX.excO C hp.objs.size)).get? (hp.objs.size + 1) = some (PySem.HandSPX.excO C hp.objs.size) := by heap_get
  have I2 : Inv X pns τ (upd G1 (hp.objs.size + 1) (exo (hp.objs.size + 1) C none)) ⟨(hp.push (PySem.W.kdv_tup us)).push (PySem.HandSPX.excO C hp.objs.size), g, dr, tk, os⟩ := I1.laid (t' := tk) (a := hp.objs.size + 1) (o := exo (hp.objs.size + 1) C none) (h' := (hp.push (PySem.W.kdv_tup us)).push (PySem.HandSPX.excO C hp.objs.size)) keep le1 (exo_ok at1)
  have rr : Vals (V.ref (hp.objs.size + 1) :: (vs ++ dvs)) (Value.ref (hp.objs.size + 1) :: (us ++ ds)) := .cons rfl (rv.append hd)
  have ln : (Value.ref (hp.objs.size + 1) :: us ++ ds).length = ps.length := by
    have k := rr.length
    rw [F1.len _ _ _ _ h1] at k
    exact k.symm
  have few : us.length ≤ sizeLine := by rw [← Paired.length rv, sizeLine_eq]; omega
  refine wpAny_call (PySem.HandSPX.call_own F.excBase_ValueError (fun Y => PySem.HandSPX.refsVE_contains Y bm hbm) (I1.kIn _ _ hC) (PySem.W.looks_findIn I1.kIn iC) (fun self => PySem.W.bind_fn I1.kIn self tI) few
    (codeAny_mono (F1.run _ X.stack _ _ ⟨Value.ref (hp.objs.size + 1) :: us, []⟩ (Value.ref (hp.objs.size + 1) :: (us ++ ds)) _ _ (fun _ _ _ => False) (hr.make C us []) (I2.env0.make C us []) (hb _ (Value.ref (hp.objs.size + 1) :: us) I2.kIn ln) rr h1) fun r2 s2 hq => ?_))
  cases r2 with
  | error er => exact hx pns τ _ _ er s2 I2 hq
  | ok fl =>
    cases fl with
    | ret u =>
      obtain ⟨v, G2, os2, bare2, un2, hok2, rv2, rfl, d, fs, ea, ed, hd1, q2⟩ := hq
      obtain ⟨h2, g2, d2, t2, os'⟩ := s2
      exact ⟨rv2, mk_endN (raises_own T.exC T.tyC) I1 le1 keep un2 hok2 os2 bare2 ea ed hd1 q2⟩
    | next => exact hq.elim
    | brk => exact hq.elim
    | cont => exact hq.elim
theorem pmk_errN {x f : Str} {C : Addr} {Okv : V → Prop} {e : Expr} {te : TE} {p pos : Pos} (T : ErrOk X.prog X.w X.K X.mg X.base x f C Okv) (hr : Room 2 X.A) (hg : Gl X x) (he : PE X e te) (hs : starEach [e] X.env = [(false, eval e X.env)] := by rfl)
    (hdb : (x == ("__debug__" : Str)) = false := by decide) : L2N.PMk X (.Call (.Name x p) [e] [] pos) (tMkO C (spSup C f Okv) [] (tCons te tNil)) := by
  obtain ⟨fI, fd, F1, hb, iC, tI⟩ := T.ini
  exact pmk_oexN (dvs := []) T.oex iC tI F1 hr hb .nil (fun _ _ _ _ _ _ _ z => z.elim) hg T.mgC (pa_cons he pa_nil hs) hdb hs rfl
/-- an own error without an __init__ of its own -/
structure ErrP (K : PySem.W.Frag) (mg : Str → Option Value) (x : Str) (C : Addr) : Prop where
  ex : PySem.W.excIn K C [.type "ValueError", .type "Exception", .type "BaseException", .type "object"] "ValueError.__new__" = true
  mgC : mg x = some (.ref C)
  kC : PySem.W.keepIn K (.ref C) = true
  exC : PySem.W.subIn K (.ref C) (.type "BaseException") = some true
  tyC : PySem.W.typeIn K (.ref C) = some (.type "type")
/-- x(e), e of any kind -/
theorem pmk_plainN {x : Str} {C : Addr} {e : Expr} {te : TE} {p pos : Pos} (T : ErrP X.K X.mg x C) (hg : Gl X x) (he : PE X e te) (hs : starEach [e] X.env = (false, eval e X.env) :: starEach [] X.env := by rfl) (hdb : (x == ("__debug__" : Str)) = false := by decide) :
    L2N.PMk X (.Call (.Name x p) [e] [] pos) (fun τ G Q => te τ G fun _ G1 => Q (.ref C) none G1) := by
  intro pns r τ G Q I h
  refine wpAny_Call_Name_kw (ld_glob I hg T.mgC (PySem.W.callWith_K (h₀ := X.base) I.ok.mod.kin T.kC ?_ hs (by rfl)) hdb)
  rw [hs]
  show wpAny _ _ (spliced ((false, eval e X.env) :: backTo pos (starEach [] X.env))) _ _ r
  refine Calls.spliced_cons (thn (he.run pns r τ G _ I h) fun u r1 ⟨v, G1, I1, rv, q1⟩ => Calls.spliced_nil ⟨I1.kIn, ?_⟩)
  show wpAny _ _ (call (.ref C) [u]) _ _ _
  obtain ⟨bm, N, nm, qn, bs, hdct, sn, sub, ab, col, dd, k0, k1, k2, k3, k5, mN, hC, hN, hni, O⟩ := exc_obj I1.kIn T.ex
  exact wpAny_call_exc_subT PySem.F.excBase_ValueError O hC hN hni (fun h' a hm => L2N.mk_of I1 hm (raises_own T.exC T.tyC) q1 (I1.hok.gone hm.new)) (by show 1 ≤ sizeLine; rw [sizeLine_eq]; omega)
end
end Pw

set_option Elab.async false
set_option linter.all false
set_option maxRecDepth 100000
set_option maxHeartbeats 4000000
/-! readings that choose their rule by the state -/
namespace Pw
open PySem PySem.Spec PyProof.Rows L2
section
variable {X : Cx}
/-- a rule chosen by the state -/
theorem pe_ex {α : Sort _} {e : Expr} {t : α → TE} (h : ∀ a, PE X e (t a)) : PE X e (fun σ H Q => ∃ a, t a σ H Q) :=
  ⟨fun pins s σ H Q I ⟨a, q⟩ => (h a).run pins s σ H Q I q⟩
theorem pe_exP {p : Prop} {e : Expr} {t : p → TE} (h : ∀ a, PE X e (t a)) : PE X e (fun σ H Q => ∃ a, t a σ H Q) :=
  ⟨fun pins s σ H Q I ⟨a, q⟩ => (h a).run pins s σ H Q I q⟩
def tOr2 (t u : TE) : TE := fun σ H Q => t σ H Q ∨ u σ H Q
theorem pe_or2 {e : Expr} {t u : TE} (h1 : PE X e t) (h2 : PE X e u) : PE X e (tOr2 t u) :=
  ⟨fun pins s σ H Q I q => q.elim (h1.run pins s σ H Q I) (h2.run pins s σ H Q I)⟩
def uOr2 (t u : TS) : TS := fun D σ H => t D σ H ∨ u D σ H
theorem ps_or2 {st : Stmt} {t u : TS} (h1 : PS X st t) (h2 : PS X st u) : PS X st (uOr2 t u) :=
  ⟨fun pins s σ H D I q => q.elim (h1.run pins s σ H D I) (h2.run pins s σ H D I)⟩
theorem op_or2 {f : Value → Value → Sem Value} {r r2 : R2} (h1 : OpR X f r) (h2 : OpR X f r2) : OpR X f (fun x y H Q => r x y H Q ∨ r2 x y H Q) :=
  fun pins s σ H x y v u Q I rx ry q => q.elim (h1 pins s σ H x y v u Q I rx ry) (h2 pins s σ H x y v u Q I rx ry)
theorem cr_or2 {f : Value} {r r2 : List V → Hp → VK → Prop} (h1 : CallR X f r) (h2 : CallR X f r2) : CallR X f (fun xs H Q => r xs H Q ∨ r2 xs H Q) :=
  fun pins s σ H xs us Q I rx q => q.elim (h1 pins s σ H xs us Q I rx) (h2 pins s σ H xs us Q I rx)
end
/-- a def that lets nothing out as it is called -/
theorem calm_of {P : Program} {w : World} {K : PySem.W.Frag} {mg : Str → Option Value} {base : Heap} {k : Nat} {f : Addr} {fd : FuncData} {ps : List Str} {sp sp' : Sp} (F : FnOk P w K mg base (L2.CX P w) k f fd ps sp)
    (h : ∀ vs H Q E, sp' vs H Q E → sp vs H Q (fun _ _ _ => False)) : FnOk P w K mg base CX0 k f fd ps sp' := by
  refine ⟨fun vs H Q E q => F.len vs H Q _ (h _ _ _ _ q), fun A outer s H args us vs Q E hr he hb hv hs => ?_⟩
  refine codeAny_mono (F.run A outer s H args us vs Q (fun _ _ _ => False) hr he hb hv (h _ _ _ _ hs)) fun r s' hq => ?_
  cases r with
  | error e =>
    obtain ⟨a, B, H', cls, d, _, _, _, _, _, _, _, z⟩ := hq
    exact z.elim
  | ok v =>
    cases v with
    | ret u => exact hq
    | next => exact hq
    | brk => exact hq
    | cont => exact hq
end Pw

set_option Elab.async false
set_option linter.all false
set_option maxRecDepth 100000
set_option maxHeartbeats 4000000
/-! a, *b = a list -/
namespace Pw
open PySem PySem.Spec PySem.Calls PyProof.Rows L2 PySem.W
section
variable {X : Cx} {pos p : Pos}
theorem pgs_star {e : Expr} {t : TG} (h1 : PG X e t) (hs : (assignEach [.Starred e p] X.env).map (·.2) = [assign e X.env] := by rfl) : PGs X [.Starred e p] (gCons t gNil) := by
  refine ⟨fun pins s σ H vs us Q I r h => ?_⟩
  obtain ⟨v, vr, e1, h⟩ := h
  subst e1
  cases r with
  | cons r rr =>
    rw [hs]
    refine assignInOrder_cons (thn (h1.run pins s σ H _ _ _ I r h) fun _ s1 ⟨σ1, H1, I1, q1⟩ => ?_)
    obtain ⟨e2, q2⟩ := q1
    subst e2
    cases rr
    exact assignInOrder_nil ⟨σ1, H1, I1, q2⟩
/-- the items of a list, its first one and the rest as a new list -/
theorem star_items {prog : Program} {w : World} {A : Around} {E : Value → Shared → Prop} {s : Shared} {l : Addr} {x : Value} {its : List Value} {Q : List Value → Shared → Prop} (hl : s.heap.IsList l (x :: its).toArray) (hh : A.handled = none) (hz : its.length ≤ 16000)
    (h : ∀ h2 tk, (∀ b o, s.heap.get? b = some o → h2.get? b = some o) → wpAny (model prog w) A (newList its) (fun d s' => Q [x, d] s') E { s with heap := h2, toks := tk }) : wpAny (model prog w) A (unpackItems (.ref l) 2 (some 1)) Q E s := by
  have hlt : l ≠ s.heap.objs.size := by obtain ⟨o, ho, _⟩ := hl; exact Nat.ne_of_lt (Heap.lt_size ho)
  have hll : l < s.heap.objs.size := by obtain ⟨o, ho, _⟩ := hl; exact Heap.lt_size ho
  have hsz : (x :: its).toArray.size = its.length + 1 := by simp
  unfold unpackItems
  refine wpAny_bind ?_
  unfold notIterableAtAll
  refine wpAny_bind (wpAny_specialOf hl.typeIs slot_list_iter.lookup ?_)
  refine wpAny_pure ?_
  simp only [Bool.false_eq_true, if_false]
  refine wpAny_bind (wpAny_holding (wpAny_pyIter_list hl ?_))
  refine wpAny_bind (wpAny_holding (kun_draw hlt 1 0 _ _ ⟨_, Heap.get?_push_size _ rfl, rfl, rfl⟩ (hl.push _) (by omega) fun h₁ hit₁ hs₁ => ?_))
  have hl₁ : h₁.IsList l (x :: its).toArray := (hl.push _).extBut hs₁.extBut hlt
  have hoi := hit₁
  obtain ⟨oi, hoi, _⟩ := hoi
  have hol := hl₁
  obtain ⟨ol, hol, _⟩ := hol
  rw [if_neg (by simp)]
  refine wpAny_bind (wpAny_holding (kun_collect (s := { s with heap := h₁ }) (T := "list_iterator") (.inr (.inr (.inl rfl))) (Walks.list (A := A.in1) hh s.heap.objs.size l hlt _) (fun j u st => st.1.typeIs) (k := 1) (by omega) ⟨hit₁, hl₁⟩ (Heap.lt_size hoi) (Heap.lt_size hol) (fun h₂ tk hk => ?_) (by rw [sizeLine_eq]; omega)))
  have he : Heap.ExtBut s.heap.objs.size s.heap h₂ := fun b o hb e => hk b o hb (hs₁.extBut b o hb (Heap.get?_push_of_some _ e))
  have ed : (x :: its).toArray.toList.drop 1 = its := rfl
  have et : (((x :: its).toArray.toList.drop 0).take 1) = [x] := rfl
  rw [ed, et]
  show wpAny _ _ (if its.length < 0 then _ else _) _ _ _
  rw [if_neg (by omega)]
  show wpAny _ _ (newList (its.take its.length) >>= fun d => pure ([x] ++ [d] ++ its.drop its.length)) _ _ _
  rw [List.take_length, List.drop_length]
  exact wpAny_bind (thn (h h₂ tk fun b o e => he b o (Nat.ne_of_lt (Heap.lt_size e)) e) fun d s' q => wpAny_pure q)
def gStar (K : PySem.W.Frag) (t : TGs) : TG := fun v σ H Q => ∃ a x xs, v = .ref a ∧ SqL K H a (x :: xs) ∧ xs.length ≤ 16000 ∧ ∀ D, H D = none → t [x, .ref D] σ (upd H D (.lst xs)) Q
theorem pg_star {e1 e2 : Expr} {k : Nat} {t : TGs} (hc : X.calm = true) (h : PGs X [e1, .Starred e2 p] t)
    (hn : (assignEach [e1, .Starred e2 p] X.env).length = 2 := by rfl) (hst : (assignEach [e1, .Starred e2 p] X.env).findIdx? (·.1) = some 1 := by rfl) : PG X (.Tuple [e1, .Starred e2 p] k pos) (gStar X.K t) := by
  refine ⟨fun pins s σ H v u Q I r hw => ?_⟩
  obtain ⟨a, x, xs, e1, hq, hl, hw⟩ := hw
  subst e1
  cases r
  obtain ⟨its, rv, ht, hz⟩ := I.list hq
  cases rv with
  | cons r0 rr =>
    rw [assign_Tuple]
    refine wpAny_bind (wpAny_standAt ?_)
    unfold unpack
    rw [hn, hst]
    refine wpAny_bind (wpAny_holding (star_items ht.isList (I.ok.hd hc) (by rw [← rr.length]; exact hl) fun h2 tk kp => ?_))
    have I1 : Inv X pins σ H { s with heap := h2, toks := tk } := I.kept kp
    refine wpAny_newList ?_ (by rw [← rr.length, sizeLine_eq]; omega)
    have hf : H h2.objs.size = none := I1.hok.fresh (Nat.le_refl _)
    have I2 : Inv X pins σ (upd H h2.objs.size (.lst xs)) _ := I1.laid (t' := tk) (fun b u e => Heap.get?_push_of_some _ e) (Nat.le_refl _) ⟨by rw [sizeLine_eq]; omega, _, 0, rr, Heap.get?_push_size _ rfl⟩
    exact h.run pins _ σ _ _ _ Q I2 (.cons r0 (.cons (a := V.ref h2.objs.size) rfl .nil)) (hw _ hf)
end
end Pw

set_option Elab.async false
set_option linter.all false
set_option maxRecDepth 100000
namespace Pw
open PySem PySem.Builtin PySem.Builtin.Str PySem.StrLaws TL

/-! ### joined and cut again -/
def joinL (c : Nat) : List (List Nat) → List Nat
  | [] => []
  | [a] => a
  | a :: b :: r => a ++ c :: joinL c (b :: r)
theorem tl_join (c : Nat) : ∀ xs : List Str, tl (Txt.join ⟨#[c]⟩ xs) = joinL c (xs.map tl) := by
  intro xs
  rw [join_eq]
  induction xs with
  | nil => rfl
  | cons a r ih =>
    cases r with
    | nil => rfl
    | cons b r =>
      have e : Str.join (⟨#[c]⟩ : Str) (a :: b :: r) = a ++ (⟨#[c]⟩ : Str) ++ Str.join (⟨#[c]⟩ : Str) (b :: r) := by
        first
          | rfl
          | simp [Str.join]
      rw [e, tl_append, tl_append, ih]
      show tl a ++ [c] ++ _ = tl a ++ c :: _
      rw [List.append_assoc]
      rfl
theorem spl_free (c : Nat) : ∀ (l acc : List Nat), c ∉ l → spl [c] 0 acc l = [acc ++ l]
  | [], acc, _ => by rw [spl_nil, List.append_nil]
  | d :: r, acc, h => by
    have h1 : d ≠ c := fun e => h (e ▸ List.mem_cons_self ..)
    have hm : pre [c] (d :: r) = false := pre_of_head [] r h1
    rw [spl_miss hm, spl_free c r (acc ++ [d]) (fun z => h (List.mem_cons_of_mem _ z)), List.append_assoc]
    rfl
theorem spl_app (c : Nat) (r : List Nat) : ∀ (l acc : List Nat), c ∉ l → spl [c] 0 acc (l ++ c :: r) = (acc ++ l) :: spl [c] 0 [] r
  | [], acc, _ => by
    rw [List.append_nil]
    show spl [c] 0 acc (c :: r) = _
    rw [spl_hit (by show ((c :: r).take 1 == [c]) = true; simp)]
    rfl
  | d :: l, acc, h => by
    have h1 : d ≠ c := fun e => h (e ▸ List.mem_cons_self ..)
    have hm : pre [c] (d :: (l ++ c :: r)) = false := pre_of_head [] _ h1
    show spl [c] 0 acc (d :: (l ++ c :: r)) = _
    rw [spl_miss hm, spl_app c r l (acc ++ [d]) (fun z => h (List.mem_cons_of_mem _ z)), List.append_assoc]
    rfl
theorem spl_join (c : Nat) : ∀ (ps : List (List Nat)), ps ≠ [] → (∀ p ∈ ps, c ∉ p) → spl [c] 0 [] (joinL c ps) = ps
  | [], h, _ => absurd rfl h
  | [a], _, h => by
    show spl [c] 0 [] a = _
    rw [spl_free c a [] (h a (List.mem_cons_self ..))]
    rfl
  | a :: b :: r, _, h => by
    show spl [c] 0 [] (a ++ c :: joinL c (b :: r)) = _
    rw [spl_app c _ a [] (h a (List.mem_cons_self ..)), spl_join c (b :: r) (List.cons_ne_nil _ _) (fun p hp => h p (List.mem_cons_of_mem _ hp))]
    rfl
theorem str_tl {a b : Str} (h : tl a = tl b) : a = b := by
  cases a with
  | mk a =>
    cases b with
    | mk b =>
      have : a.toList = b.toList := h
      rw [Array.toList_inj.mp this]
theorem map_tl : ∀ {xs ys : List Str}, xs.map tl = ys.map tl → xs = ys
  | [], [], _ => rfl
  | [], _ :: _, h => nomatch h
  | _ :: _, [], h => nomatch h
  | x :: xs, y :: ys, h => by
    rw [List.map_cons, List.map_cons] at h
    obtain ⟨h1, h2⟩ := List.cons.inj h
    rw [str_tl h1, map_tl h2]
/-- a text of parts with a sign between, cut at that sign -/
theorem split_join {c : Nat} (hc : c ≤ 127) {xs : List Str} (h0 : xs ≠ []) (h : ∀ x ∈ xs, c ∉ tl x) : Txt.split (Txt.join ⟨#[c]⟩ xs) ⟨#[c]⟩ = xs := by
  have hk : ¬ Builtin.Str.strKind (Txt.join ⟨#[c]⟩ xs) < Builtin.Str.strKind (⟨#[c]⟩ : Str) := kind_ok (by
    simp
    omega)
  have h1 := split_spl (Txt.join ⟨#[c]⟩ xs) ⟨#[c]⟩ (by show [c] ≠ []; simp) hk
  refine map_tl (Eq.trans h1 ?_)
  show spl [c] 0 [] (tl (Txt.join ⟨#[c]⟩ xs)) = _
  rw [tl_join]
  refine spl_join c _ (by simpa using h0) (fun p hp => ?_)
  obtain ⟨x, hx, rfl⟩ := List.mem_map.mp hp
  exact h x hx
/-! ### numbers by figures -/
def digL (n : Nat) : List Nat := (Nat.toDigits 10 n).map Char.toNat
theorem tl_num (n : Nat) : tl (Str.ofString (toString ((n : Nat) : Int))) = digL n := PySem.W.KIN.signs_num n
theorem digL_small {n : Nat} (h : n < 10) : digL n = [48 + n] := by
  unfold digL
  rw [Nat.toDigits_of_lt_base h]
  show [(Nat.digitChar n).toNat] = _
  have e : ∀ d : Nat, d < 10 → (Nat.digitChar d).toNat = 48 + d := by decide
  rw [e n h]
theorem digL_big {n : Nat} (h : 10 ≤ n) : digL n = digL (n / 10) ++ [48 + n % 10] := by
  have hm : n % 10 < 10 := Nat.mod_lt n (by decide)
  have t : Nat.toDigits 10 (n / 10) ++ Nat.toDigits 10 (n % 10) = Nat.toDigits 10 (10 * (n / 10) + n % 10) := Nat.toDigits_append_toDigits (by decide) (by omega) hm
  rw [Nat.div_add_mod] at t
  rw [← digL_small hm]
  unfold digL
  rw [← t, List.map_append]
theorem digL_all (n : Nat) : ∀ c ∈ digL n, 48 ≤ c ∧ c ≤ 57 := by
  induction n using Nat.strongRecOn with
  | _ n ih =>
    intro c hc
    by_cases h : n < 10
    · rw [digL_small h] at hc
      have := List.mem_singleton.mp hc
      omega
    · rw [digL_big (by omega)] at hc
      rcases List.mem_append.mp hc with z | z
      · exact ih (n / 10) (by omega) c z
      · have := List.mem_singleton.mp z
        omega
theorem digL_len (k : Nat) : ∀ n, n < 10 ^ (k + 1) → (digL n).length ≤ k + 1 := by
  induction k with
  | zero =>
    intro n h
    rw [digL_small (by omega)]
    exact Nat.le_refl _
  | succ k ih =>
    intro n h
    by_cases h1 : n < 10
    · rw [digL_small h1]
      show 1 ≤ _
      omega
    · rw [digL_big (by omega), List.length_append]
      have := ih (n / 10) (by rw [Nat.div_lt_iff_lt_mul (by decide), ← Nat.pow_succ]; exact h)
      show _ + 1 ≤ _
      omega
theorem digL_ne (n : Nat) : digL n ≠ [] := by
  by_cases h : n < 10
  · rw [digL_small h]
    exact List.cons_ne_nil _ _
  · rw [digL_big (by omega)]
    simp
theorem digL_head (n : Nat) (h0 : n ≠ 0) : ∃ c r, digL n = c :: r ∧ c ≠ 48 := by
  induction n using Nat.strongRecOn with
  | _ n ih =>
    by_cases h : n < 10
    · exact ⟨48 + n, [], digL_small h, by omega⟩
    · obtain ⟨c, r, e, hc⟩ := ih (n / 10) (by omega) (by omega)
      exact ⟨c, r ++ [48 + n % 10], by rw [digL_big (by omega), e]; rfl, hc⟩
theorem reads_num {n : Nat} (h : n < 1000000) : PySem.intText? (Str.ofString (toString ((n : Nat) : Int))) = some (n : Int) := PySem.W.KIN.num_reads (by omega) (by omega)
end Pw

set_option Elab.async false
set_option linter.all false
set_option maxRecDepth 100000
namespace Pw
open PySem PySem.Builtin PySem.Builtin.Str PySem.StrLaws TL

/-! ### where a word stands first -/
def Has (l w : List Nat) : Prop := ∃ i, w <+: l.drop i
/-- the end of the first place at which w stands -/
def fEnd : List Nat → List Nat → Option Nat
  | [], w => if w = [] then some 0 else none
  | c :: r, w => if w <+: c :: r then some w.length else (fEnd r w).map (· + 1)
theorem has_nil {w : List Nat} (hw : w ≠ []) : ¬ Has [] w := fun ⟨i, h⟩ => by
  rw [List.drop_nil] at h
  exact hw (List.prefix_nil.mp h)
theorem has_cons {c : Nat} {r w : List Nat} : Has (c :: r) w ↔ w <+: c :: r ∨ Has r w := by
  constructor
  · rintro ⟨i, h⟩
    cases i with
    | zero => exact .inl h
    | succ i => exact .inr ⟨i, h⟩
  · rintro (h | ⟨i, h⟩)
    · exact ⟨0, h⟩
    · exact ⟨i + 1, h⟩
theorem fEnd_spec : ∀ (l w : List Nat), w ≠ [] → (fEnd l w = none ∧ ∀ i, ¬ w <+: l.drop i) ∨ ∃ i, fEnd l w = some (i + w.length) ∧ w <+: l.drop i ∧ ∀ k, k < i → ¬ w <+: l.drop k
  | [], w, hw => by
    refine .inl ⟨?_, fun i h => ?_⟩
    · unfold fEnd
      rw [if_neg hw]
    · exact has_nil hw ⟨i, h⟩
  | c :: r, w, hw => by
    unfold fEnd
    by_cases h : w <+: c :: r
    · rw [if_pos h]
      exact .inr ⟨0, by rw [Nat.zero_add], h, fun k hk => absurd hk (Nat.not_lt_zero _)⟩
    · rw [if_neg h]
      rcases fEnd_spec r w hw with ⟨e, hn⟩ | ⟨i, e, hi, hk⟩
      · refine .inl ⟨by rw [e]; rfl, fun i => ?_⟩
        cases i with
        | zero => exact h
        | succ i => exact hn i
      · refine .inr ⟨i + 1, ?_, hi, fun k hk2 => ?_⟩
        · rw [e]
          show some (i + w.length + 1) = some (i + 1 + w.length)
          congr 1
          omega
        · cases k with
          | zero => exact h
          | succ k => exact hk k (by omega)
theorem fEnd_none {l w : List Nat} (hw : w ≠ []) : fEnd l w = none ↔ ¬ Has l w := by
  rcases fEnd_spec l w hw with ⟨e, hn⟩ | ⟨i, e, hi, hk⟩
  · exact ⟨fun _ ⟨i, h⟩ => hn i h, fun _ => e⟩
  · constructor
    · intro h
      rw [e] at h
      cases h
    · intro h
      exact absurd ⟨i, hi⟩ h
theorem fEnd_some {l w : List Nat} (hw : w ≠ []) : (fEnd l w).isSome = true ↔ Has l w := by
  cases h : fEnd l w with
  | none =>
    have := (fEnd_none hw).mp h
    exact ⟨fun z => (nomatch z), fun z => absurd z this⟩
  | some e =>
    refine ⟨fun _ => ?_, fun _ => rfl⟩
    rcases fEnd_spec l w hw with ⟨e, hn⟩ | ⟨i, e, hi, hk⟩
    · rw [h] at e
      cases e
    · exact ⟨i, hi⟩
theorem pre_room {l w : List Nat} {i : Nat} (hw : w ≠ []) (h : w <+: l.drop i) : i + w.length ≤ l.length := by
  have h1 := h.length_le
  rw [List.length_drop] at h1
  have h2 : 0 < w.length := List.length_pos_iff.mpr hw
  omega
theorem fEnd_le {l w : List Nat} {e : Nat} (hw : w ≠ []) (h : fEnd l w = some e) : e ≤ l.length := by
  rcases fEnd_spec l w hw with ⟨e1, hn⟩ | ⟨i, e1, hi, hk⟩
  · rw [h] at e1
    cases e1
  · rw [h] at e1
    have := pre_room hw hi
    have := Option.some.inj e1
    omega
theorem has_take {l w : List Nat} {k : Nat} (hw : w ≠ []) : Has (l.take k) w ↔ ∃ e, fEnd l w = some e ∧ e ≤ k := by
  constructor
  · rintro ⟨i, h⟩
    have h2 := pre_room hw h
    rw [List.length_take] at h2
    have h3 : w <+: l.drop i := by
      rw [List.drop_take] at h
      exact h.trans (List.take_prefix _ _)
    rcases fEnd_spec l w hw with ⟨e1, hn⟩ | ⟨j, e1, hj, hk⟩
    · exact absurd h3 (hn i)
    · refine ⟨_, e1, ?_⟩
      by_cases hij : i < j
      · exact absurd h3 (hk i hij)
      · omega
  · rintro ⟨e, h1, h2⟩
    rcases fEnd_spec l w hw with ⟨e1, hn⟩ | ⟨j, e1, hj, hk⟩
    · rw [h1] at e1
      cases e1
    · rw [h1] at e1
      have e2 := Option.some.inj e1
      refine ⟨j, ?_⟩
      rw [List.drop_take]
      exact List.prefix_take_iff.mpr ⟨hj, by omega⟩
/-! ### find and in -/
theorem at_pre {x y : Str} (hy : tl y ≠ []) (i : Nat) : At x y x.length i ↔ tl y <+: (tl x).drop i := by
  rw [at_iff hy]
  show (((tl x).drop i).take (tl y).length == tl y) = true ↔ _
  rw [beq_iff_eq, List.prefix_iff_eq_take]
  exact eq_comm
theorem find_end {x y : Str} (hy : tl y ≠ []) : (Txt.find x y < 0 ∧ fEnd (tl x) (tl y) = none) ∨ ∃ i : Nat, Txt.find x y = (i : Int) ∧ fEnd (tl x) (tl y) = some (i + (tl y).length) := by
  rcases PyProof.Rows.find_whole x y with ⟨h1, h2⟩ | ⟨i, h1, h2, h3⟩
  · refine .inl ⟨by omega, (fEnd_none hy).mpr fun ⟨i, h⟩ => h2 i ((at_pre hy i).mpr h)⟩
  · refine .inr ⟨i, h1, ?_⟩
    rcases fEnd_spec (tl x) (tl y) hy with ⟨e, hn⟩ | ⟨j, e, hj, hk⟩
    · exact absurd ((at_pre hy i).mp h2) (hn i)
    · rw [e]
      have a1 : ¬ i < j := fun z => hk i z ((at_pre hy i).mp h2)
      have a2 : ¬ j < i := fun z => h3 j z ((at_pre hy j).mpr hj)
      have : j = i := by omega
      rw [this]
theorem in_has {x y : Str} (hy : tl y ≠ []) : (!(occurrences x y 0 x.length 1).isEmpty) = (fEnd (tl x) (tl y)).isSome := by
  have h1 := found_iff x y
  have h2 := fEnd_some (l := tl x) hy
  have h3 : (∃ i, i + y.length ≤ x.length ∧ subAt x y i = true) ↔ Has (tl x) (tl y) :=
    ⟨fun ⟨i, h⟩ => ⟨i, (at_pre hy i).mp h⟩, fun ⟨i, h⟩ => ⟨i, (at_pre hy i).mpr h⟩⟩
  rw [Bool.eq_iff_iff, h1, h3, h2]
/-! ### runs as words -/
def zerosL (n : Nat) : List Nat := List.replicate n 48
def gapW (m : Nat) : List Nat := 49 :: (zerosL m ++ [49])
theorem has_app {a r w : List Nat} (hw : w ≠ []) (h49 : 49 ∉ w) : Has (a ++ 49 :: r) w ↔ Has a w ∨ Has r w := by
  induction a with
  | nil =>
    rw [List.nil_append, has_cons]
    constructor
    · rintro (h | h)
      · cases w with
        | nil => exact absurd rfl hw
        | cons d w =>
          have := (List.cons_prefix_cons.mp h).1
          exact absurd (List.mem_cons_self) (this ▸ h49)
      · exact .inr h
    · rintro (h | h)
      · exact absurd h (has_nil hw)
      · exact .inr h
  | cons c a ih =>
    rw [List.cons_append, has_cons, has_cons, ih]
    constructor
    · rintro (h | h | h)
      · refine .inl (.inl ?_)
        have hl : w.length ≤ (c :: a).length := by
          by_cases z : w.length ≤ (c :: a).length
          · exact z
          · exfalso
            obtain ⟨t, ht⟩ := h
            have e := congrArg (·[(c :: a).length]?) ht
            rw [List.getElem?_append_left (by omega)] at e
            have e2 : (c :: (a ++ 49 :: r))[(c :: a).length]? = some 49 := by
              rw [show c :: (a ++ 49 :: r) = (c :: a) ++ 49 :: r from rfl, List.getElem?_append_right (Nat.le_refl _), Nat.sub_self]
              rfl
            rw [e2] at e
            exact h49 (List.mem_of_getElem? e)
        rw [show c :: (a ++ 49 :: r) = (c :: a) ++ 49 :: r from rfl] at h
        have h2 := List.prefix_iff_eq_take.mp h
        rw [List.take_append_of_le_length hl] at h2
        exact List.prefix_iff_eq_take.mpr h2
      · exact .inl (.inr h)
      · exact .inr h
    · rintro ((h | h) | h)
      · refine .inl ?_
        rw [show c :: (a ++ 49 :: r) = (c :: a) ++ 49 :: r from rfl]
        exact h.trans (List.prefix_append _ _)
      · exact .inr (.inl h)
      · exact .inr (.inr h)
theorem has_zeros (h k : Nat) : Has (zerosL k) (zerosL (h + 1)) ↔ h < k := by
  constructor
  · rintro ⟨i, hp⟩
    have := hp.length_le
    unfold zerosL at this
    rw [List.length_drop, List.length_replicate, List.length_replicate] at this
    omega
  · intro hk
    refine ⟨0, ?_⟩
    rw [List.drop_zero]
    unfold zerosL
    refine ⟨List.replicate (k - (h + 1)) 48, ?_⟩
    rw [List.replicate_append_replicate]
    congr 1
    omega
theorem zeros_ne (h : Nat) : zerosL (h + 1) ≠ [] := by
  unfold zerosL
  rw [List.replicate_succ]
  exact List.cons_ne_nil _ _
theorem zeros_no (h : Nat) : 49 ∉ zerosL h := fun z => by
  have := (List.mem_replicate.mp z).2
  omega
theorem zeros_snoc (k : Nat) (r : List Nat) : zerosL k ++ 48 :: r = zerosL (k + 1) ++ r := by
  unfold zerosL
  rw [List.replicate_succ', List.append_assoc]
  rfl
theorem idle_has (h : Nat) : ∀ (l : List Nat), Pure l → ∀ k, (∃ n ∈ runL k l, h < n) ↔ Has (zerosL k ++ l) (zerosL (h + 1))
  | [], _, k => by
    rw [List.append_nil, has_zeros]
    unfold runL
    simp
  | c :: r, hp, k => by
    have hr : Pure r := fun d hd => hp d (List.mem_cons_of_mem _ hd)
    unfold runL
    rcases hp c List.mem_cons_self with e | e
    · subst e
      rw [if_neg (by decide), idle_has h r hr (k + 1), zeros_snoc]
    · subst e
      rw [if_pos rfl, has_app (zeros_ne h) (zeros_no _), has_zeros]
      have ih := idle_has h r hr 0
      rw [show zerosL 0 ++ r = r from rfl] at ih
      rw [← ih]
      constructor
      · rintro ⟨n, hn, hl⟩
        rcases List.mem_cons.mp hn with z | z
        · exact .inl (z ▸ hl)
        · exact .inr ⟨n, z, hl⟩
      · rintro (z | ⟨n, z, hl⟩)
        · exact ⟨k, List.mem_cons_self, z⟩
        · exact ⟨n, List.mem_cons_of_mem _ z, hl⟩
theorem gap_ne (m : Nat) : gapW m ≠ [] := List.cons_ne_nil _ _
theorem has_48 {r : List Nat} {m : Nat} : Has (48 :: r) (gapW m) ↔ Has r (gapW m) := by
  rw [has_cons]
  refine ⟨fun h => ?_, .inr⟩
  rcases h with h | h
  · exact absurd (List.cons_prefix_cons.mp h).1 (by decide)
  · exact h
theorem has_zs {r : List Nat} {m : Nat} : ∀ k, Has (zerosL k ++ r) (gapW m) ↔ Has r (gapW m)
  | 0 => Iff.rfl
  | k + 1 => by
    have e : zerosL (k + 1) ++ r = 48 :: (zerosL k ++ r) := by
      unfold zerosL
      rw [List.replicate_succ]
      rfl
    rw [e, has_48, has_zs k]
theorem zeros_pre (r : List Nat) : ∀ (m k : Nat), zerosL m ++ [49] <+: zerosL k ++ 49 :: r ↔ m = k
  | 0, 0 => ⟨fun _ => rfl, fun _ => ⟨r, rfl⟩⟩
  | 0, k + 1 => by
    refine ⟨fun h => ?_, fun h => (nomatch h)⟩
    have : (49 : Nat) = 48 := (List.cons_prefix_cons.mp h).1
    exact absurd this (by decide)
  | m + 1, 0 => by
    refine ⟨fun h => ?_, fun h => (nomatch h)⟩
    have : (48 : Nat) = 49 := (List.cons_prefix_cons.mp h).1
    exact absurd this (by decide)
  | m + 1, k + 1 => by
    have e1 : zerosL (m + 1) ++ [49] = 48 :: (zerosL m ++ [49]) := by
      unfold zerosL
      rw [List.replicate_succ]
      rfl
    have e2 : zerosL (k + 1) ++ 49 :: r = 48 :: (zerosL k ++ 49 :: r) := by
      unfold zerosL
      rw [List.replicate_succ]
      rfl
    rw [e1, e2, List.cons_prefix_cons, zeros_pre r m k]
    omega
theorem gap_end (m : Nat) : ∀ k, ¬ zerosL m ++ [49] <+: zerosL k := fun k h => by
  have := h.subset (List.mem_append_right _ (List.mem_singleton.mpr rfl))
  exact zeros_no k this
theorem low_has (lo : Nat) : ∀ (l : List Nat), Pure l → ∀ k, (∃ n ∈ (runL k l).dropLast, n < lo) ↔ ∃ m, m < lo ∧ Has (49 :: (zerosL k ++ l)) (gapW m)
  | [], _, k => by
    unfold runL
    constructor
    · rintro ⟨n, hn, _⟩
      cases hn
    · rintro ⟨m, _, h⟩
      rw [List.append_nil, has_cons] at h
      rcases h with h | h
      · exact absurd (List.cons_prefix_cons.mp h).2 (gap_end m k)
      · have h2 := (has_zs (r := []) (m := m) k).mp (by rw [List.append_nil]; exact h)
        exact absurd h2 (has_nil (gap_ne m))
  | c :: r, hp, k => by
    have hr : Pure r := fun d hd => hp d (List.mem_cons_of_mem _ hd)
    unfold runL
    rcases hp c List.mem_cons_self with e | e
    · subst e
      rw [if_neg (by decide), low_has lo r hr (k + 1), zeros_snoc]
    · subst e
      have ih := low_has lo r hr 0
      rw [show zerosL 0 ++ r = r from rfl] at ih
      rw [if_pos rfl, List.dropLast_cons_of_ne_nil (runL_ne _ _)]
      have key : ∀ m, Has (49 :: (zerosL k ++ 49 :: r)) (gapW m) ↔ m = k ∨ Has (49 :: r) (gapW m) := fun m => by
        rw [has_cons, has_zs]
        unfold gapW
        rw [List.cons_prefix_cons, zeros_pre]
        constructor
        · rintro (⟨_, z⟩ | z)
          · exact .inl z
          · exact .inr z
        · rintro (z | z)
          · exact .inl ⟨rfl, z⟩
          · exact .inr z
      constructor
      · rintro ⟨n, hn, hl⟩
        rcases List.mem_cons.mp hn with z | z
        · exact ⟨k, z ▸ hl, (key k).mpr (.inl rfl)⟩
        · obtain ⟨m, hm, h2⟩ := ih.mp ⟨n, z, hl⟩
          exact ⟨m, hm, (key m).mpr (.inr h2)⟩
      · rintro ⟨m, hm, h2⟩
        rcases (key m).mp h2 with z | z
        · exact ⟨k, List.mem_cons_self, z ▸ hm⟩
        · obtain ⟨n, hn, hl⟩ := ih.mpr ⟨m, hm, z⟩
          exact ⟨n, List.mem_cons_of_mem _ hn, hl⟩
theorem low_first (lo : Nat) : ∀ (l : List Nat), Pure l → ∀ k, (∃ n ∈ ((runL k l).drop 1).dropLast, n < lo) ↔ ∃ m, m < lo ∧ Has l (gapW m)
  | [], _, k => by
    unfold runL
    constructor
    · rintro ⟨n, hn, _⟩
      cases hn
    · rintro ⟨m, _, h⟩
      exact absurd h (has_nil (gap_ne m))
  | c :: r, hp, k => by
    have hr : Pure r := fun d hd => hp d (List.mem_cons_of_mem _ hd)
    unfold runL
    rcases hp c List.mem_cons_self with e | e
    · subst e
      rw [if_neg (by decide), low_first lo r hr (k + 1)]
      constructor
      · rintro ⟨m, hm, h⟩
        exact ⟨m, hm, has_48.mpr h⟩
      · rintro ⟨m, hm, h⟩
        exact ⟨m, hm, has_48.mp h⟩
    · subst e
      rw [if_pos rfl, List.drop_succ_cons, List.drop_zero, low_has lo r hr 0]
      rfl
/-! ### the swing along a row -/
def wid (l : List Nat) : Int := (hiS l).2.1 - (hiS l).2.2
theorem wid_step (l : List Nat) (i : Nat) : wid (l.take i) ≤ wid (l.take (i + 1)) := by
  cases h : l[i]? with
  | none =>
    have hl := List.getElem?_eq_none_iff.mp h
    rw [List.take_of_length_le hl, List.take_of_length_le (by omega)]
    exact Int.le_refl _
  | some c =>
    rw [take_snoc h]
    unfold wid
    rw [hiS_snoc]
    dsimp only
    split <;> split <;> omega
theorem wid_mono (l : List Nat) {i k : Nat} (h : i ≤ k) : wid (l.take i) ≤ wid (l.take k) := by
  induction k with
  | zero =>
    have : i = 0 := by omega
    subst this
    exact Int.le_refl _
  | succ k ih =>
    by_cases e : i = k + 1
    · subst e
      exact Int.le_refl _
    · exact Int.le_trans (ih (by omega)) (wid_step l k)
/-- the first beginning that swings beyond s -/
def spanEnd (l : List Nat) : Option Int → Option Nat
  | none => none
  | some s => (List.range (l.length + 1)).find? fun i => decide (s < wid (l.take i))
theorem span_take {l : List Nat} {s : Int} {k : Nat} (hk : k ≤ l.length) : s < wid (l.take k) ↔ ∃ e, spanEnd l (some s) = some e ∧ e ≤ k := by
  unfold spanEnd
  dsimp only
  constructor
  · intro h
    cases hf : (List.range (l.length + 1)).find? fun i => decide (s < wid (l.take i)) with
    | none =>
      have := List.find?_eq_none.mp hf k (List.mem_range.mpr (by omega))
      exact absurd (decide_eq_true h) this
    | some e =>
      refine ⟨e, rfl, ?_⟩
      by_cases hek : e ≤ k
      · exact hek
      · have h2 := (List.find?_range_eq_some.mp hf).2.2 k (by omega)
        rw [decide_eq_true h] at h2
        cases h2
  · rintro ⟨e, he, hek⟩
    have h1 : s < wid (l.take e) := of_decide_eq_true (List.find?_some (p := fun i => decide (s < wid (l.take i))) he)
    exact Int.lt_of_lt_of_le h1 (wid_mono l hek)
theorem span_le {l : List Nat} {wd : Option Int} {e : Nat} (h : spanEnd l wd = some e) : e ≤ l.length := by
  cases wd with
  | none => cases h
  | some s =>
    have := List.mem_range.mp (List.mem_of_find?_eq_some h)
    omega
/-! ### what is lawful -/
/-- barred words, short gaps, long idles -/
def piecesL (xs : List Str) (lo : Int) (hi : Option Int) : List (List Nat) :=
  xs.map tl ++ (List.range lo.toNat).map gapW ++ (match hi with | none => [] | some h => [zerosL (h + 1).toNat])
def hiB (l : List Nat) : Option Int → Bool
  | none => true
  | some h => (runL 0 l).all fun n => decide ((n : Int) ≤ h)
def wdB (l : List Nat) : Option Int → Bool
  | none => true
  | some s => decide (wid l ≤ s)
def lawB (xs : List Str) (lo : Int) (hi wd : Option Int) (l : List Nat) : Bool :=
  !(xs.any fun y => (fEnd l (tl y)).isSome) &&
  (hiB l hi &&
  ((((runL 0 l).drop 1).dropLast.all fun n => decide (lo ≤ (n : Int))) &&
  wdB l wd))
def endsL (xs : List Str) (lo : Int) (hi wd : Option Int) (l : List Nat) : List (Option Nat) := (piecesL xs lo hi).map (fEnd l) ++ [spanEnd l wd]
theorem pieces_ne {xs : List Str} {lo : Int} {hi : Option Int} (hx : ∀ x ∈ xs, tl x ≠ []) (hh : ∀ h, hi = some h → 0 ≤ h) : ∀ w ∈ piecesL xs lo hi, w ≠ [] := by
  intro w hw
  unfold piecesL at hw
  rcases List.mem_append.mp hw with h | h
  · rcases List.mem_append.mp h with h | h
    · obtain ⟨x, h1, h2⟩ := List.mem_map.mp h
      exact h2 ▸ hx x h1
    · obtain ⟨x, h1, h2⟩ := List.mem_map.mp h
      exact h2 ▸ gap_ne x
  · cases hi with
    | none => cases h
    | some h' =>
      have h0 := hh h' rfl
      have e : w = zerosL (h' + 1).toNat := List.mem_singleton.mp h
      rw [e, show (h' + 1).toNat = h'.toNat + 1 by omega]
      exact zeros_ne _
theorem pure_take {l : List Nat} (h : Pure l) (k : Nat) : Pure (l.take k) := fun c hc => h c (List.mem_of_mem_take hc)
theorem all_false {α : Type} {l : List α} {p : α → Bool} : l.all p = false ↔ ∃ x ∈ l, p x = false := by
  rw [Bool.eq_false_iff, ne_eq, List.all_eq_true]
  constructor
  · intro h
    apply Classical.byContradiction
    intro h2
    refine h fun x hx => ?_
    cases e : p x with
    | true => rfl
    | false => exact absurd ⟨x, hx, e⟩ h2
  · rintro ⟨x, hx, e⟩ h
    rw [h x hx] at e
    cases e
theorem law_take {xs : List Str} {lo : Int} {hi wd : Option Int} {l : List Nat} {k : Nat} (hp : Pure l) (hx : ∀ x ∈ xs, tl x ≠ []) (hl : 0 ≤ lo) (hh : ∀ h, hi = some h → 0 ≤ h) (hk : k ≤ l.length) :
    lawB xs lo hi wd (l.take k) = false ↔ ∃ e, some e ∈ endsL xs lo hi wd l ∧ e ≤ k := by
  have hpk := pure_take hp k
  have hA : (∃ e, some e ∈ endsL xs lo hi wd l ∧ e ≤ k) ↔ (∃ x ∈ xs, Has (l.take k) (tl x)) ∨ (∃ m, m < lo.toNat ∧ Has (l.take k) (gapW m)) ∨ (∃ h, hi = some h ∧ Has (l.take k) (zerosL (h + 1).toNat)) ∨ (∃ s, wd = some s ∧ s < wid (l.take k)) := by
    constructor
    · rintro ⟨e, he, hek⟩
      unfold endsL at he
      rcases List.mem_append.mp he with h | h
      · obtain ⟨w, hw, hf⟩ := List.mem_map.mp h
        have hne := pieces_ne hx hh w hw
        have hh2 : Has (l.take k) w := (has_take hne).mpr ⟨e, hf, hek⟩
        unfold piecesL at hw
        rcases List.mem_append.mp hw with h | h
        · rcases List.mem_append.mp h with h | h
          · obtain ⟨x, h1, h2⟩ := List.mem_map.mp h
            exact .inl ⟨x, h1, h2 ▸ hh2⟩
          · obtain ⟨m, h1, h2⟩ := List.mem_map.mp h
            exact .inr (.inl ⟨m, List.mem_range.mp h1, h2 ▸ hh2⟩)
        · cases hi with
          | none => cases h
          | some h' => exact .inr (.inr (.inl ⟨h', rfl, (List.mem_singleton.mp h) ▸ hh2⟩))
      · have h2 := (List.mem_singleton.mp h).symm
        cases wd with
        | none => cases h2
        | some s => exact .inr (.inr (.inr ⟨s, rfl, (span_take hk).mpr ⟨e, h2, hek⟩⟩))
    · have put : ∀ w, w ∈ piecesL xs lo hi → Has (l.take k) w → ∃ e, some e ∈ endsL xs lo hi wd l ∧ e ≤ k := fun w hw h => by
        obtain ⟨e, h1, h2⟩ := (has_take (pieces_ne hx hh w hw)).mp h
        exact ⟨e, List.mem_append_left _ (List.mem_map.mpr ⟨w, hw, h1⟩), h2⟩
      rintro (⟨x, h1, h2⟩ | ⟨m, h1, h2⟩ | ⟨h, rfl, h2⟩ | ⟨s, rfl, h2⟩)
      · exact put _ (List.mem_append_left _ (List.mem_append_left _ (List.mem_map.mpr ⟨x, h1, rfl⟩))) h2
      · exact put _ (List.mem_append_left _ (List.mem_append_right _ (List.mem_map.mpr ⟨m, List.mem_range.mpr h1, rfl⟩))) h2
      · exact put _ (List.mem_append_right _ (List.mem_singleton.mpr rfl)) h2
      · obtain ⟨e, h3, h4⟩ := (span_take hk).mp h2
        exact ⟨e, List.mem_append_right _ (List.mem_singleton.mpr h3.symm), h4⟩
  rw [hA]
  unfold lawB
  rw [Bool.and_eq_false_iff, Bool.and_eq_false_iff, Bool.and_eq_false_iff]
  have b1 : (!(xs.any fun y => (fEnd (l.take k) (tl y)).isSome)) = false ↔ ∃ x ∈ xs, Has (l.take k) (tl x) := by
    rw [Bool.not_eq_false', List.any_eq_true]
    constructor
    · rintro ⟨x, h1, h2⟩
      exact ⟨x, h1, (fEnd_some (hx x h1)).mp h2⟩
    · rintro ⟨x, h1, h2⟩
      exact ⟨x, h1, (fEnd_some (hx x h1)).mpr h2⟩
  have b2 : hiB (l.take k) hi = false ↔ ∃ h, hi = some h ∧ Has (l.take k) (zerosL (h + 1).toNat) := by
    cases hi with
    | none => exact ⟨fun z => (nomatch z), fun ⟨_, z, _⟩ => (nomatch z)⟩
    | some h =>
      have h0 := hh h rfl
      have ih := idle_has h.toNat (l.take k) hpk 0
      rw [show zerosL 0 ++ l.take k = l.take k from rfl, show h.toNat + 1 = (h + 1).toNat by omega] at ih
      show (runL 0 (l.take k)).all (fun n => decide ((n : Int) ≤ h)) = false ↔ _
      rw [all_false]
      constructor
      · rintro ⟨n, h1, h2⟩
        have := of_decide_eq_false h2
        exact ⟨h, rfl, ih.mp ⟨n, h1, by omega⟩⟩
      · rintro ⟨h', e, h2⟩
        obtain rfl : h = h' := Option.some.inj e
        obtain ⟨n, h3, h4⟩ := ih.mpr h2
        exact ⟨n, h3, decide_eq_false (by omega)⟩
  have b3 : (((runL 0 (l.take k)).drop 1).dropLast.all fun n => decide (lo ≤ (n : Int))) = false ↔ ∃ m, m < lo.toNat ∧ Has (l.take k) (gapW m) := by
    rw [← low_first lo.toNat (l.take k) hpk 0, all_false]
    constructor
    · rintro ⟨n, h1, h2⟩
      have := of_decide_eq_false h2
      exact ⟨n, h1, by omega⟩
    · rintro ⟨n, h1, h2⟩
      exact ⟨n, h1, decide_eq_false (by omega)⟩
  have b4 : wdB (l.take k) wd = false ↔ ∃ s, wd = some s ∧ s < wid (l.take k) := by
    cases wd with
    | none => exact ⟨fun z => (nomatch z), fun ⟨_, z, _⟩ => (nomatch z)⟩
    | some s =>
      constructor
      · intro h
        have := of_decide_eq_false h
        exact ⟨s, rfl, by omega⟩
      · rintro ⟨s', e, h2⟩
        obtain rfl : s = s' := Option.some.inj e
        exact decide_eq_false (by omega)
  rw [b1, b2, b3, b4]
  constructor
  · rintro (h | h | h | h)
    · exact .inl h
    · exact .inr (.inr (.inl h))
    · exact .inr (.inl h)
    · exact .inr (.inr (.inr h))
  · rintro (h | h | h | h)
    · exact .inl h
    · exact .inr (.inr (.inl h))
    · exact .inr (.inl h)
    · exact .inr (.inr (.inr h))
/-! ### the least of a list, None of none -/
def MinOf (o : Option Int) (ns : List Int) : Prop := (o = none ∧ ns = []) ∨ ∃ m, o = some m ∧ m ∈ ns ∧ ∀ y ∈ ns, m ≤ y
def somesI (os : List (Option Nat)) : List Int := (os.filterMap id).map fun (n : Nat) => (n : Int)
def badsL (xs : List Str) (lo : Int) (hi wd : Option Int) (l : List Nat) (n : Nat) : List Int := ((List.range n).filter fun k => !(lawB xs lo hi wd (l.take k))).map fun (n : Nat) => (n : Int)
theorem mem_somes {os : List (Option Nat)} {y : Int} : y ∈ somesI os ↔ ∃ e : Nat, some e ∈ os ∧ y = (e : Int) := by
  unfold somesI
  rw [List.mem_map]
  constructor
  · rintro ⟨e, h1, h2⟩
    obtain ⟨o, h3, h4⟩ := List.mem_filterMap.mp h1
    refine ⟨e, ?_, h2.symm⟩
    have : o = some e := h4
    rw [← this]
    exact h3
  · rintro ⟨e, h1, h2⟩
    exact ⟨e, List.mem_filterMap.mpr ⟨some e, h1, rfl⟩, h2.symm⟩
theorem ends_le {xs : List Str} {lo : Int} {hi wd : Option Int} {l : List Nat} (hx : ∀ x ∈ xs, tl x ≠ []) (hh : ∀ h, hi = some h → 0 ≤ h) {e : Nat} (h : some e ∈ endsL xs lo hi wd l) : e ≤ l.length := by
  unfold endsL at h
  rcases List.mem_append.mp h with h | h
  · obtain ⟨w, hw, hf⟩ := List.mem_map.mp h
    exact fEnd_le (pieces_ne hx hh w hw) hf
  · exact span_le (List.mem_singleton.mp h).symm
theorem fault_is {xs : List Str} {lo : Int} {hi wd : Option Int} {l : List Nat} {o u : Option Int} (hp : Pure l) (hx : ∀ x ∈ xs, tl x ≠ []) (hl : 0 ≤ lo) (hh : ∀ h, hi = some h → 0 ≤ h)
    (ho : MinOf o (somesI (endsL xs lo hi wd l))) (hu : MinOf u (badsL xs lo hi wd l (l.length + 1))) : o = u := by
  have key : ∀ k, k ≤ l.length → (((k : Nat) : Int) ∈ badsL xs lo hi wd l (l.length + 1) ↔ ∃ e, some e ∈ endsL xs lo hi wd l ∧ e ≤ k) := fun k hk => by
    rw [← law_take hp hx hl hh hk]
    unfold badsL
    rw [List.mem_map]
    constructor
    · rintro ⟨j, h1, h2⟩
      have : j = k := by omega
      subst this
      have h3 := (List.mem_filter.mp h1).2
      simpa using h3
    · intro h
      exact ⟨k, List.mem_filter.mpr ⟨List.mem_range.mpr (by omega), by rw [h]; rfl⟩, rfl⟩
  have inb : ∀ y ∈ badsL xs lo hi wd l (l.length + 1), ∃ k : Nat, y = (k : Int) ∧ k ≤ l.length := fun y hy => by
    unfold badsL at hy
    obtain ⟨k, h1, h2⟩ := List.mem_map.mp hy
    have := List.mem_range.mp (List.mem_filter.mp h1).1
    exact ⟨k, h2.symm, by omega⟩
  rcases ho with ⟨rfl, h1⟩ | ⟨m, rfl, h1, h2⟩
  · rcases hu with ⟨rfl, _⟩ | ⟨n, rfl, h3, _⟩
    · rfl
    · obtain ⟨k, rfl, hk⟩ := inb n h3
      obtain ⟨e, he, _⟩ := (key k hk).mp h3
      have : (e : Int) ∈ somesI (endsL xs lo hi wd l) := mem_somes.mpr ⟨e, he, rfl⟩
      rw [h1] at this
      cases this
  · obtain ⟨e, he, rfl⟩ := mem_somes.mp h1
    have hel := ends_le hx hh he
    have hb : ((e : Nat) : Int) ∈ badsL xs lo hi wd l (l.length + 1) := (key e hel).mpr ⟨e, he, Nat.le_refl _⟩
    rcases hu with ⟨rfl, h3⟩ | ⟨n, rfl, h3, h4⟩
    · rw [h3] at hb
      cases hb
    · congr 1
      obtain ⟨k, rfl, hk⟩ := inb n h3
      obtain ⟨e2, he2, hle⟩ := (key k hk).mp h3
      have a1 := h4 _ hb
      have a2 := h2 _ (mem_somes.mpr ⟨e2, he2, rfl⟩)
      omega
theorem min_none {o : Option Int} {ns : List Int} (h : MinOf o ns) : o.isNone = decide (ns = []) := by
  rcases h with ⟨rfl, rfl⟩ | ⟨m, rfl, h1, _⟩
  · rfl
  · rw [decide_eq_false (fun z => by rw [z] at h1; cases h1)]
    rfl
end Pw

set_option Elab.async false
set_option linter.all false
set_option maxRecDepth 100000
set_option maxHeartbeats 4000000
namespace Pw
open PySem PySem.Spec PyProof.Rows L2 TL
/-- a number or None -/
def vO : Option Int → V
  | none => .non
  | some i => .int i
theorem fold_min : ∀ (ns : List Int) (n : Int), ns.foldl min n ∈ n :: ns ∧ ∀ y ∈ n :: ns, ns.foldl min n ≤ y
  | [], n => ⟨List.mem_cons_self, fun y hy => by rw [List.mem_singleton.mp hy]; exact Int.le_refl _⟩
  | k :: r, n => by
    obtain ⟨h1, h2⟩ := fold_min r (min n k)
    rw [List.foldl_cons]
    refine ⟨?_, fun y hy => ?_⟩
    · rcases List.mem_cons.mp h1 with z | z
      · rw [z]
        by_cases h : n ≤ k
        · rw [Int.min_eq_left h]
          exact List.mem_cons_self
        · rw [Int.min_eq_right (by omega)]
          exact List.mem_cons_of_mem _ List.mem_cons_self
      · exact List.mem_cons_of_mem _ (List.mem_cons_of_mem _ z)
    · have hm := h2 (min n k) List.mem_cons_self
      rcases List.mem_cons.mp hy with z | z
      · rw [z]
        exact Int.le_trans hm (Int.min_le_left _ _)
      · rcases List.mem_cons.mp z with z | z
        · rw [z]
          exact Int.le_trans hm (Int.min_le_right _ _)
        · exact h2 y (List.mem_cons_of_mem _ z)
/-- min(xs, default=None) of a list of ints -/
def rMinD (K : PySem.W.Frag) : List V → List V → Hp → VK → Prop := fun vs zs H Q => ∃ (a : Addr) (ns : List Int), vs = [V.ref a] ∧ zs = [.non] ∧ SqL K H a (ns.map V.int) ∧ ∀ o, MinOf o ns → Q (vO o) H
theorem crk_min {X : Cx} (hc : X.calm = true) (hu : X.A.units + 64 < cLine) : CallRK X (.builtin "min") ["default"] (rMinD X.K) := by
  intro pins s σ H vs zs us ws Q I r rz h
  obtain ⟨a, ns, rfl, rfl, hs, q⟩ := h
  obtain ⟨its, rv, hl, _⟩ := I.list hs
  rw [Vals.ref1 r]
  obtain ⟨u, rfl, ru⟩ := rz.one
  cases (show u = Value.none from ru)
  have h0 := PyProof.Rows.depthAll_ints ns
  refine PySem.W.min_list_default (xs := ns.map PyData.int) (as := []) (I.ok.hd hc) hl.isList (by simpa using IntsAre.reads s.heap rv.ints) ?_ (by rw [h0]; omega) (fun e h' tk hk => ?_) (fun y ys i v h' tk bs e hi rd hk => ?_)
  · exact PySem.W.alikeAll_datum ns
  · refine ⟨.non, H, I.kept hk, rfl, ?_⟩
    exact q none (.inl ⟨rfl, List.map_eq_nil_iff.mp e⟩)
  · cases ns with
    | nil => cases e
    | cons n r2 =>
      rw [List.map_cons] at e
      injection e with e1 e2
      subst e1
      subst e2
      rw [PySem.W.minD_ints] at rd
      obtain ⟨t, rfl⟩ : ∃ t, v = .int (r2.foldl min n) t := by
        cases rd
        exact ⟨_, rfl⟩
      obtain ⟨h1, h2⟩ := fold_min r2 n
      exact ⟨.int _, H, I.kept hk, ⟨_, rfl⟩, q (some _) (.inr ⟨_, rfl, h1, h2⟩)⟩
/-- text * number -/
theorem op_mulS {X : Cx} : OpR X (binaryOp .Mult) (fun x y H Q => ∃ (z : Str) (n : Nat), x = .str z ∧ y = .int (n : Nat) ∧ z.length ≤ 1 ∧ n ≤ 1000 ∧ Q (.str (Txt.mul z (n : Int))) H) := by
  intro pins s σ H x y v u Q I rx ry h
  obtain ⟨z, n, rfl, rfl, hz, hn, q⟩ := h
  obtain ⟨t, rfl⟩ := (show ∃ t, v = Value.str z t from rx)
  obtain ⟨t', rfl⟩ := (show ∃ t, u = Value.int (n : Nat) t from ry)
  refine SB.mul ⟨?_, fun h1 h2 => ?_, fun h1 h2 => ?_⟩ fun t2 k => ⟨.str _, H, I.tok k, ⟨_, rfl⟩, q⟩
  · rw [decide_eq_false (by omega), decide_eq_false (by omega)]
    rfl
  · have h3 : (1 : Int) ≤ (2 ^ 63 - 1) / (n : Int) := by
      rw [Int.le_ediv_iff_mul_le (by omega)]
      omega
    omega
  · have h3 : z.length * ((n : Int)).toNat ≤ 1000 := Nat.le_trans (Nat.mul_le_mul hz (show ((n : Int)).toNat ≤ 1000 by omega)) (by decide)
    generalize z.length * ((n : Int)).toNat = k at h3
    show decide _ = false
    refine decide_eq_false fun z => ?_
    exact absurd (Nat.lt_of_lt_of_le z h3) (by decide)
theorem tl_mul (c n : Nat) : tl (Txt.mul ⟨#[c]⟩ (n : Int)) = List.replicate n c := PyProof.Rows.mul_one_list c n
/-- for i, x in enumerate(list) -/
theorem for_enumL {K : PySem.W.Frag} {a : Addr} {xs : List V} {g : TG} {tb : TS} {D : Ends} {σ : L2.St} {H : Hp} (Pv : Nat → L2.St → Hp → Prop) (h0 : Pv 0 σ H) (hl : ∀ i σ H, i ≤ xs.length → Pv i σ H → SqL K H a xs)
    (hs : ∀ i x σ H T, xs[i]? = some x → Pv i σ H → H T = none → g (.ref T) σ (upd H T (.tup [.int (i : Nat), x])) fun σ2 H2 => tb { D with nx := Pv (i + 1), ct := Pv (i + 1), bk := D.nx } σ2 H2)
    (hd : ∀ σ H, Pv xs.length σ H → D.nx σ H) :
    ∃ W : Nat → Nat → L2.St → Hp → Prop, (∃ m, W 0 m σ H) ∧ ∀ i m σ H, W i m σ H →
      ((Ite K a).stop i H ∧ D.nx σ H) ∨ ((Ite K a).go i H ∧ ∃ N : L2.St → Hp → Prop, (∀ σ' H', N σ' H' → ∃ m', m' < m ∧ W (i + 1) m' σ' H') ∧ ∀ v H', (Ite K a).yld i H v H' → g v σ H' fun σ2 H2 => tb { D with nx := N, ct := N, bk := D.nx } σ2 H2) := by
  refine ⟨fun i m σ H => m = xs.length - i ∧ i ≤ xs.length ∧ Pv i σ H, ⟨xs.length, by simp, Nat.zero_le _, h0⟩, ?_⟩
  rintro i m σ H ⟨rfl, hi, p⟩
  have q := hl i σ H hi p
  by_cases hlt : i < xs.length
  · refine .inr ⟨⟨xs, xs[i], q, by simp [hlt]⟩, Pv (i + 1), fun σ' H' p' => ⟨xs.length - (i + 1), by omega, rfl, hlt, p'⟩, fun v H' y => ?_⟩
    obtain ⟨T, x, rfl, nT, rfl, y⟩ := y
    exact hs i x σ H T (y xs q) p nT
  · have e : i = xs.length := by omega
    subst e
    exact .inl ⟨⟨xs, q, Nat.le_refl _⟩, hd σ H p⟩
/-- [.. for c in text ..] -/
theorem lc_str {z : Str} {g : TG} {tt : TT} {te : TE} {vs : List Nat} {σ : L2.St} {H1 : Hp} {D : Addr} {Qd : Hp → Prop} (Pv : Nat → Hp → Prop) (h0 : Pv 0 (upd H1 D (.lst [])))
    (hs : ∀ i c H, z.cps[i]? = some c → Pv i H → g (.str ⟨#[c]⟩) (wipe σ vs) H fun σ2 H2 => wipe σ2 vs = wipe σ vs ∧ tt σ2 H2 fun b H3 =>
      if b = true then te σ2 H3 fun y H4 => ∃ acc, H4 D = some (.lst acc) ∧ acc.length < sizeLine ∧ Pv (i + 1) (upd H4 D (.lst (acc ++ [y]))) else Pv (i + 1) H3) (hd : ∀ H, Pv z.cps.size H → Qd H) :
    ∃ W : Nat → Nat → Hp → Prop, (∃ m, W 0 m (upd H1 D (.lst []))) ∧ ∀ i m H, W i m H →
      ((Its z).stop i H ∧ Qd H) ∨ ((Its z).go i H ∧ ∃ Nx : Hp → Prop, (∀ H', Nx H' → ∃ m', m' < m ∧ W (i + 1) m' H') ∧ ∀ x H', (Its z).yld i H x H' → g x (wipe σ vs) H' fun σ2 H2 => wipe σ2 vs = wipe σ vs ∧ tt σ2 H2 fun b H3 =>
        if b = true then te σ2 H3 fun y H4 => ∃ acc, H4 D = some (.lst acc) ∧ acc.length < sizeLine ∧ Nx (upd H4 D (.lst (acc ++ [y]))) else Nx H3) := by
  refine ⟨fun i m H => m = z.cps.size - i ∧ i ≤ z.cps.size ∧ Pv i H, ⟨z.cps.size, by simp, Nat.zero_le _, h0⟩, ?_⟩
  rintro i m H ⟨rfl, hi, p⟩
  by_cases hlt : i < z.cps.size
  · refine .inr ⟨hlt, Pv (i + 1), fun H' p' => ⟨z.cps.size - (i + 1), by omega, rfl, hlt, p'⟩, fun x H' y => ?_⟩
    obtain ⟨e, c, hc, rfl⟩ := y
    subst e
    exact hs i c _ hc p
  · have e : i = z.cps.size := by omega
    subst e
    exact .inl ⟨Nat.le_refl _, hd H p⟩
end Pw

set_option Elab.async false
set_option linter.all false
set_option maxRecDepth 100000
set_option maxHeartbeats 4000000
namespace Pw
open PySem PySem.Spec PyProof.Rows
/-- how many unlike texts -/
def dist : List Str → Nat
  | [] => 0
  | x :: r => if r.any (· == x) = true then dist r else dist r + 1
def cntD (l : List Str) : Nat := dist l.reverse
theorem cntD_snoc (l : List Str) (x : Str) : cntD (l ++ [x]) = if l.any (· == x) = true then cntD l else cntD l + 1 := by
  unfold cntD
  rw [List.reverse_append]
  show (if l.reverse.any (· == x) = true then dist l.reverse else dist l.reverse + 1) = _
  rw [List.any_reverse]
theorem dist_cons (x : Str) (r : List Str) : dist (x :: r) = if r.any (· == x) = true then dist r else dist r + 1 := rfl
theorem dist_le : ∀ l : List Str, dist l ≤ l.length
  | [] => Nat.le_refl _
  | x :: r => by
    have := dist_le r
    unfold dist
    split
    · rw [List.length_cons]
      omega
    · rw [List.length_cons]
      omega
theorem cntD_le (l : List Str) : cntD l ≤ l.length := by
  unfold cntD
  have := dist_le l.reverse
  rw [List.length_reverse] at this
  exact this
theorem any_mem {l : List Str} {x : Str} : l.any (· == x) = true ↔ x ∈ l := by
  rw [List.any_eq_true]
  constructor
  · rintro ⟨y, h1, h2⟩
    rw [← beq_iff_eq.mp h2]
    exact h1
  · intro h
    exact ⟨x, h, beq_self_eq_true x⟩
theorem dist_nodup : ∀ l : List Str, dist l = l.length ↔ l.Nodup
  | [] => by simp [dist]
  | x :: r => by
    have ih := dist_nodup r
    have hle := dist_le r
    rw [List.nodup_cons, ← ih, List.length_cons, dist_cons]
    by_cases h : r.any (· == x) = true
    · rw [if_pos h]
      constructor
      · intro e
        omega
      · rintro ⟨h1, _⟩
        exact absurd (any_mem.mp h) h1
    · rw [if_neg h]
      constructor
      · intro e
        exact ⟨fun z => h (any_mem.mpr z), by omega⟩
      · rintro ⟨_, h2⟩
        omega
theorem cntD_nodup (l : List Str) : cntD l = l.length ↔ l.Nodup := by
  unfold cntD
  have := dist_nodup l.reverse
  rw [List.length_reverse] at this
  rw [this]
  unfold List.Nodup
  rw [List.pairwise_reverse]
  exact ⟨fun h => h.imp fun z => Ne.symm z, fun h => h.imp fun z => Ne.symm z⟩
section
variable {prog : Program} {w : World} {A : Around} {R : Result → Shared → Prop} {I : Addr} {fp wr : List Addr} {G : Array GenState → Array GenState → Prop} {n : Nat} {P : Nat → Value → Prop} {St : Nat → Shared → Prop}
theorem fill_loop (W : WalksS prog w A.in1 I fp wr G n P St) (S : Addr) (hSf : S ∉ fp) (xs : List Str) (hsz : xs.length = n) (hn : n ≤ 60) (hval : ∀ i v, P i v → ∃ t, v = .str (xs.getD i Str.empty) t) :
    ∀ (k i : Nat) (s : Shared), n - i = k → i ≤ n → St i s → s.heap.SetOf (PySem.strKind prog w) S (fun y => (xs.take i).any (· == y)) (cntD (xs.take i)) →
      (∀ s', Moved (S :: wr) G s s' → s'.heap.SetOf (PySem.strKind prog w) S (fun y => (xs.take n).any (· == y)) (cntD (xs.take n)) → R (.ok (.ret .none)) s') →
      codeAny (model prog w) A (.builtin "set.update.loop" ⟨[.ref S, .ref I], []⟩) R s := by
  have nSw : S ∉ wr := fun h => hSf (W.sub _ h)
  have inW : ∀ b ∈ wr, b ∈ S :: wr := fun b hb => List.mem_cons_of_mem _ hb
  intro k
  induction k with
  | zero =>
    intro i s hk hi hst hS hR
    obtain rfl : i = n := by omega
    refine codeAny_builtin PyProof.Rows.F.entry_set_update_loop ?_
    rw [Around.under_plainId PyProof.Rows.F.plain_set_update_loop _]
    show wpAny _ A.in1 (pyNext (.ref I) >>= _) _ _ s
    refine wpAny_bind (W.done s _ _ hst fun s' hm => ?_)
    show wpAny _ A.in1 (ret Value.none) _ _ s'
    exact wpAny_pure (hR s' (hm.mono inW) (let ⟨o, es, ep, t, ho, rest⟩ := hS; ⟨o, es, ep, t, hm.heap S _ nSw ho, rest⟩))
  | succ k ih =>
    intro i s hk hi hst hS hR
    have hlt : i < n := by omega
    have hix : i < xs.length := by omega
    refine codeAny_builtin PyProof.Rows.F.entry_set_update_loop ?_
    rw [Around.under_plainId PyProof.Rows.F.plain_set_update_loop _]
    show wpAny _ A.in1 (pyNext (.ref I) >>= _) _ _ s
    refine wpAny_bind (W.item i s _ _ hlt hst fun v s' hP hst' hm => ?_)
    obtain ⟨t, rfl⟩ := hval i v hP
    have eget : xs.getD i Str.empty = xs[i] := by simp [List.getD, hix]
    rw [eget]
    have hS' : s'.heap.SetOf (PySem.strKind prog w) S (fun y => (xs.take i).any (· == y)) (cntD (xs.take i)) := let ⟨o, es, ep, tb, ho, rest⟩ := hS; ⟨o, es, ep, tb, hm.heap S _ nSw ho, rest⟩
    have hroom : cntD (xs.take i) + 1 < scanBound := by
      have := cntD_le (xs.take i)
      rw [List.length_take] at this
      unfold scanBound
      omega
    show wpAny _ A.in1 (holding [Value.str xs[i] t] (setAdd S (.str xs[i] t)) >>= _) _ _ s'
    refine wpAny_bind (wpAny_holding ?_)
    unfold setAdd
    refine wpAny_holding ?_
    refine wpAny_bind ((PySem.strKind prog w).pyHash (k := xs[i]) (strKind_is _ _ _ _) ?_)
    refine wpAny_setAddHashed_of (knd := PySem.strKind prog w) (s := { s' with toks := s'.toks + 1 }) (strKind_is _ _ _ _) rfl hS' hroom fun h' hsb hS2 => ?_
    have etake : xs.take (i + 1) = xs.take i ++ [xs[i]] := by
      rw [List.take_add_one, List.getElem?_eq_getElem hix]
      rfl
    have hSi : h'.SetOf (PySem.strKind prog w) S (fun y => (xs.take (i + 1)).any (· == y)) (cntD (xs.take (i + 1))) := by
      refine SetOf_congr hS2 (fun y => ?_) ?_
      · rw [etake, List.any_append]
        congr 1
        by_cases e : y = xs[i]
        · subst e
          simp
        · have hb : (xs[i] == y) = false := by simpa [beq_iff_eq] using (fun z : xs[i] = y => e z.symm)
          simp [hb, e]
      · rw [etake, cntD_snoc]
    refine wpAny_pure ⟨plainId_quiet PyProof.Rows.F.plain_set_update_loop _, ih (i + 1) _ (by omega) hlt (W.frame _ s' _ _ hst' (Nat.le_succ _) fun b hb o e => ?_) hSi fun s'' hm'' hS'' => ?_⟩
    · rw [hsb.2 b (fun z : b = S => hSf (by rw [← z]; exact hb))]
      exact e
    · refine hR s'' (Moved.trans W.gtrans ((hm.mono inW).then_heap (Nat.le_succ _) fun b o hb e => ?_) hm'') hS''
      rw [hsb.2 b (fun z : b = S => hb (by rw [z]; exact List.mem_cons_self))]
      exact e
end
/-- the object of an empty set -/
abbrev set0 (led : Bool) : Obj := { cls := .type "set", dict := none, data := .set #[] 0 (.fresh 0 0 led) }
section
variable {prog : Program} {w : World} {A : Around} {E : Value → Shared → Prop} {s : Shared}
/-- set(x), once its __init__ is walked -/
theorem set_by {x : Addr} {xs : List Str} {n : Nat} {Q : Value → Shared → Prop}
    (hinit : ∀ (led : Bool) (R : Fin → Shared → Prop) (E' : Value → Shared → Prop), (∀ (h' : Heap) (tk : Nat), h'.SetOf (PySem.strKind prog w) s.heap.objs.size (fun y => (xs.take n).any (· == y)) (cntD (xs.take n)) → (∀ b o, b < s.heap.objs.size → s.heap.get? b = some o → h'.get? b = some o) → R (.done (.ret .none)) { s with heap := h', toks := tk }) →
      wpAny (model prog w) A.in1.in1 (Builtin.«set.__init__» ⟨[.ref s.heap.objs.size, .ref x], []⟩) R E' { s with heap := s.heap.push (set0 led) })
    (h : ∀ (h' : Heap) (tk : Nat), h'.SetOf (PySem.strKind prog w) s.heap.objs.size (fun y => (xs.take n).any (· == y)) (cntD (xs.take n)) → (∀ b o, b < s.heap.objs.size → s.heap.get? b = some o → h'.get? b = some o) → Q (.ref s.heap.objs.size) { s with heap := h', toks := tk }) :
    wpAny (model prog w) A (call (.type "set") [.ref x]) Q E s := by
  obtain ⟨c, tl, hmro⟩ := PySem.F.called_set.mro
  have hmade := PySem.F.called_set.made
  have hsub := PySem.F.called_set.sub
  refine wpAny_call (codeAny_of_tree ?_)
  show wpAny _ _ (callAny (.type "set") _) _ _ _
  refine wpAny_pure ⟨Code.quiet_builtin _ (by decide +kernel), codeAny_builtin PySem.F.entry_type_call ?_⟩
  rw [Around.under_plain (weight_type_call_type "set" [.ref x] []) rfl]
  have h1 := PySem.F.called_set.notType
  have h2 := PySem.F.called_set.canCreate
  have hct := PySem.F.typeCall_set_1 (.ref x)
  repeat (any_goals (first | assumption | wp_step))
  refine codeAny_mono (code_set_new_1 (.ref x) (E := E) (Q₁ := fun obj s₁ => ∃ led : Bool, obj = .ref s.heap.objs.size ∧ s₁ = { s with heap := s.heap.push (set0 led) }) fun led => ⟨led, rfl, rfl⟩) fun r s₁ hr => ?_
  cases r with
  | error e => exact hr
  | ok fl =>
    cases fl with
    | ret obj =>
      obtain ⟨led, rfl, rfl⟩ := hr
      have hS : (s.heap.push (set0 led)).get? s.heap.objs.size = some (set0 led) := Heap.get?_push_size _ rfl
      have hT : Shared.TypeIs { s with heap := s.heap.push (set0 led) } (.ref s.heap.objs.size) "set" := ⟨_, hS, rfl⟩
      have hli := PySem.F.called_set.init.lookup
      have hbi := PySem.F.called_set.init.bind (.ref s.heap.objs.size)
      repeat (any_goals (first | assumption | wp_step))
      refine codeAny_mono (codeAny_call_builtin (R := wants (fun r s₂ => r = .none ∧ ∃ h' tk, s₂ = { s with heap := h', toks := tk } ∧ h'.SetOf (PySem.strKind prog w) s.heap.objs.size (fun y => (xs.take n).any (· == y)) (cntD (xs.take n)) ∧
          (∀ b o, b < s.heap.objs.size → s.heap.get? b = some o → h'.get? b = some o)) E) PySem.F.called_set.init.plain PySem.F.entry_set_init (check_set_init_1 hT ?_)) fun r₂ s₂ hr₂ => ?_
      · exact hinit led _ _ fun h' tk a b => ⟨rfl, h', tk, rfl, a, b⟩
      · cases r₂ with
        | error e => exact hr₂
        | ok fl₂ =>
          cases fl₂ with
          | ret r =>
            obtain ⟨rfl, h', tk, rfl, hS', hk'⟩ := hr₂
            repeat (any_goals (first | assumption | wp_step))
            exact h _ _ hS' hk'
          | _ => exact hr₂.elim
    | _ => exact hr.elim
theorem set_list {x : Addr} {items : Array Value} {xs : List Str} {Q : Value → Shared → Prop} (hh : A.handled = none) (hl : s.heap.IsList x items) (hi : PyProof.Rows.StrsAre items.toList xs) (hn : xs.length ≤ 60)
    (h : ∀ (h' : Heap) (tk : Nat), h'.SetOf (PySem.strKind prog w) s.heap.objs.size (fun y => (xs.take items.size).any (· == y)) (cntD (xs.take items.size)) → (∀ b o, b < s.heap.objs.size → s.heap.get? b = some o → h'.get? b = some o) → Q (.ref s.heap.objs.size) { s with heap := h', toks := tk }) :
    wpAny (model prog w) A (call (.type "set") [.ref x]) Q E s := by
  refine set_by (n := items.size) (fun led R E' hR => ?_) h
  obtain ⟨⟨ocls, odict, odata, oslots⟩, hol, hcl, nl, hdl⟩ := hl
  simp only at hcl hdl
  subst hcl
  subst hdl
  have hS : (s.heap.push (set0 led)).get? s.heap.objs.size = some (set0 led) := Heap.get?_push_size _ rfl
  have hol' : (s.heap.push (set0 led)).get? x = some { cls := .type "list", dict := odict, data := .seq items nl, slots := oslots } := Heap.get?_push_of_some _ hol
  have hsls := PySem.F.sub_list_set
  have hslf := PySem.F.sub_list_frozenset
  have hne : (Value.type "list" == Value.type "dict") = false := by decide
  have hl1 : (s.heap.push (set0 led)).IsList x items := ⟨_, hol', rfl, nl, rfl⟩
  unfold Builtin.«set.__init__» noKeywords Builtin.Frozenset.updateFrom
  generalize hPI : pyIter = PI
  wp_walk
  subst hPI
  refine wpAny_pyIter_list hl1 (wpAny_bind (wpAny_runValue ?_))
  have hlS : x < s.heap.objs.size := Heap.lt_size hol
  have hh3 : A.in1.in1.in1.handled = none := by simp [hh]
  have hneI : x ≠ (s.heap.push (set0 led)).objs.size := by
    rw [Heap.size_push]
    exact Nat.ne_of_lt (Nat.lt_succ_of_lt hlS)
  have hSf : s.heap.objs.size ∉ [(s.heap.push (set0 led)).objs.size, x] := by
    rw [Heap.size_push]
    simp only [List.mem_cons, List.mem_singleton, List.not_mem_nil, or_false, not_or]
    exact ⟨Nat.ne_of_lt (Nat.lt_succ_self _), Nat.ne_of_gt hlS⟩
  have hsz : xs.length = items.size := by rw [← StrsAre.len_eq hi, Array.length_toList]
  have hval : ∀ (i : Nat) (v : Value), items[i]? = some v → ∃ t, v = .str (xs.getD i Str.empty) t := fun i v hv => SS.strs_at hi i v (by rw [Array.getElem?_toList]; exact hv)
  refine fill_loop ((Walks.list hh3 _ x hneI items).toS) s.heap.objs.size hSf xs hsz (by rw [← hsz]; exact hn) hval (items.size - 0) 0 _ (by omega) (Nat.zero_le _) ⟨⟨_, Heap.get?_push_size _ rfl, rfl, rfl⟩, (hl1.push _)⟩ ?hS0 ?hR
  case hS0 =>
    have hget : ((s.heap.push (set0 led)).push { cls := .type "list_iterator", data := .fields #[.ref x, .int 0 0] }).get? s.heap.objs.size = some (set0 led) := Heap.get?_push_of_some _ hS
    exact PyProof.Rows.SetOf_congr ((PyProof.Rows.setObjOf_fresh (knd := PySem.strKind prog w) led).setOf hget (by unfold scanBound; omega)) (fun _ => rfl) rfl
  case hR =>
    intro s' hm hS'
    obtain ⟨h', g', d', tk', os'⟩ := s'
    obtain rfl : g' = s.gens := hm.gens
    obtain rfl : d' = s.drawn := hm.drawn
    obtain rfl : os' = s.os := hm.os
    show wpAny _ _ _ _ _ _
    refine wpAny_pure ?_
    show wpAny _ _ (ret Value.none) _ _ _
    refine wpAny_pure (hR h' tk' hS' fun b o hb e => ?_)
    have hb1 : b ≠ s.heap.objs.size := Nat.ne_of_lt hb
    have hb2 : b ≠ (s.heap.push (set0 led)).objs.size := by
      rw [Heap.size_push]
      exact Nat.ne_of_lt (Nat.lt_succ_of_lt hb)
    exact hm.heap b o (by simp only [List.mem_cons, List.mem_singleton, List.not_mem_nil, or_false, not_or]; exact ⟨hb1, hb2⟩) (Heap.get?_push_of_some _ (Heap.get?_push_of_some _ e))
theorem set_tuple {x : Addr} {items : Array Value} {xs : List Str} {Q : Value → Shared → Prop} (hh : A.handled = none) (hl : s.heap.IsTuple x items) (hi : PyProof.Rows.StrsAre items.toList xs) (hn : xs.length ≤ 60)
    (h : ∀ (h' : Heap) (tk : Nat), h'.SetOf (PySem.strKind prog w) s.heap.objs.size (fun y => (xs.take items.size).any (· == y)) (cntD (xs.take items.size)) → (∀ b o, b < s.heap.objs.size → s.heap.get? b = some o → h'.get? b = some o) → Q (.ref s.heap.objs.size) { s with heap := h', toks := tk }) :
    wpAny (model prog w) A (call (.type "set") [.ref x]) Q E s := by
  refine set_by (n := items.size) (fun led R E' hR => ?_) h
  obtain ⟨⟨ocls, odict, odata, oslots⟩, hol, hcl, nl, hdl⟩ := hl
  simp only at hcl hdl
  subst hcl
  subst hdl
  have hS : (s.heap.push (set0 led)).get? s.heap.objs.size = some (set0 led) := Heap.get?_push_size _ rfl
  have hol' : (s.heap.push (set0 led)).get? x = some { cls := .type "tuple", dict := odict, data := .seq items nl, slots := oslots } := Heap.get?_push_of_some _ hol
  have hsls := PySem.F.sub_tuple_set
  have hslf := PySem.F.sub_tuple_frozenset
  have hne : (Value.type "tuple" == Value.type "dict") = false := by decide
  have hl1 : (s.heap.push (set0 led)).IsTuple x items := ⟨_, hol', rfl, nl, rfl⟩
  unfold Builtin.«set.__init__» noKeywords Builtin.Frozenset.updateFrom
  generalize hPI : pyIter = PI
  wp_walk
  subst hPI
  refine wpAny_pyIter_tuple hl1 (wpAny_bind (wpAny_runValue ?_))
  have hlS : x < s.heap.objs.size := Heap.lt_size hol
  have hh3 : A.in1.in1.in1.handled = none := by simp [hh]
  have hneI : x ≠ (s.heap.push (set0 led)).objs.size := by
    rw [Heap.size_push]
    exact Nat.ne_of_lt (Nat.lt_succ_of_lt hlS)
  have hSf : s.heap.objs.size ∉ [(s.heap.push (set0 led)).objs.size, x] := by
    rw [Heap.size_push]
    simp only [List.mem_cons, List.mem_singleton, List.not_mem_nil, or_false, not_or]
    exact ⟨Nat.ne_of_lt (Nat.lt_succ_self _), Nat.ne_of_gt hlS⟩
  have hsz : xs.length = items.size := by rw [← StrsAre.len_eq hi, Array.length_toList]
  have hval : ∀ (i : Nat) (v : Value), items[i]? = some v → ∃ t, v = .str (xs.getD i Str.empty) t := fun i v hv => SS.strs_at hi i v (by rw [Array.getElem?_toList]; exact hv)
  refine fill_loop ((Walks.tuple hh3 _ x hneI items).toS) s.heap.objs.size hSf xs hsz (by rw [← hsz]; exact hn) hval (items.size - 0) 0 _ (by omega) (Nat.zero_le _) ⟨⟨_, Heap.get?_push_size _ rfl, rfl, rfl⟩, (hl1.push _)⟩ ?hS0 ?hR
  case hS0 =>
    have hget : ((s.heap.push (set0 led)).push { cls := .type "tuple_iterator", data := .fields #[.ref x, .int 0 0] }).get? s.heap.objs.size = some (set0 led) := Heap.get?_push_of_some _ hS
    exact PyProof.Rows.SetOf_congr ((PyProof.Rows.setObjOf_fresh (knd := PySem.strKind prog w) led).setOf hget (by unfold scanBound; omega)) (fun _ => rfl) rfl
  case hR =>
    intro s' hm hS'
    obtain ⟨h', g', d', tk', os'⟩ := s'
    obtain rfl : g' = s.gens := hm.gens
    obtain rfl : d' = s.drawn := hm.drawn
    obtain rfl : os' = s.os := hm.os
    show wpAny _ _ _ _ _ _
    refine wpAny_pure ?_
    show wpAny _ _ (ret Value.none) _ _ _
    refine wpAny_pure (hR h' tk' hS' fun b o hb e => ?_)
    have hb1 : b ≠ s.heap.objs.size := Nat.ne_of_lt hb
    have hb2 : b ≠ (s.heap.push (set0 led)).objs.size := by
      rw [Heap.size_push]
      exact Nat.ne_of_lt (Nat.lt_succ_of_lt hb)
    exact hm.heap b o (by simp only [List.mem_cons, List.mem_singleton, List.not_mem_nil, or_false, not_or]; exact ⟨hb1, hb2⟩) (Heap.get?_push_of_some _ (Heap.get?_push_of_some _ e))
end
open L2
/-- len(set(xs)), xs a list or tuple of texts -/
def tLenD (K : PySem.W.Frag) (ta : TE) : TE := fun σ H Q => ta σ H fun x H1 => ∃ l, ∃ xs : List Str, x = .ref l ∧ (SqL K H1 l (xs.map V.str) ∨ SqT K H1 l (xs.map V.str)) ∧ xs.length ≤ 60 ∧ Q (.int (cntD xs : Nat)) H1
theorem pe_lenD {X : Cx} {a : Expr} {ta : TE} {p p2 q pos : Pos} (hc : X.calm = true) (hg : Gl X "len") (hm : X.mg "len" = none) (hg2 : Gl X "set") (hm2 : X.mg "set" = none) (ha : PE X a ta)
    (na : starEach [a] X.env = (false, eval a X.env) :: starEach [] X.env := by rfl) : PE X (.Call (.Name "len" p) [.Call (.Name "set" p2) [a] [] q] [] pos) (tLenD X.K ta) := by
  refine ⟨fun pns s τ G Q I h => ?_⟩
  refine Call_ (ld_blt I hg hm boot_len (PyProof.Rows.callWith_builtin1 (PyProof.Rows.args_cons (Call_ (ld_blt I hg2 hm2 boot_set ?_)) rfl) rfl rfl))
  refine PyProof.Rows.callWith_type1 (PyProof.Rows.args_cons (thn (ha.run pns s τ G _ I h) fun v s1 ⟨x, H1, I1, r1, q1⟩ => PyProof.Rows.args_nil ?_) na) na rfl
  obtain ⟨l, xs, rfl, hq, h1, q1⟩ := q1
  cases r1
  have fin : ∀ (its : List Value), Vals (xs.map V.str) its → ∀ (h' : Heap) (tk : Nat), h'.SetOf (PySem.strKind X.prog X.w) s1.heap.objs.size (fun y => (xs.take its.toArray.size).any (· == y)) (cntD (xs.take its.toArray.size)) →
      (∀ b o, b < s1.heap.objs.size → s1.heap.get? b = some o → h'.get? b = some o) →
      wpAny (model X.prog X.w) X.A (spliced (backTo pos (starEach [] X.env))) (fun vs s₂ => wpAny (model X.prog X.w) X.A (call (.builtin "len") (Value.ref s1.heap.objs.size :: vs)) (EP X pns τ Q) X.xe s₂) X.xe { s1 with heap := h', toks := tk } := fun its r h' tk hS hk => by
    refine PyProof.Rows.args_nil ?_
    have hl : its.toArray.size = xs.length := by rw [List.size_toArray, ← r.length, List.length_map]
    rw [hl, List.take_length] at hS
    obtain ⟨o, es, ep, t, ho, hex, hd, _, _, _, hf, hn⟩ := hS
    have I2 : Inv X pns τ H1 { s1 with heap := h', toks := tk } := I1.kept fun b o e => hk b o (Heap.lt_size e) e
    have hle := cntD_le xs
    exact call_len_set ho hex hd hf (by rw [hn] <;> omega) ⟨.int (cntD xs : Nat), H1, I2.tok _, ⟨_, by rw [hn]⟩, q1⟩
  rcases hq with hq | hq
  · obtain ⟨its, r, pl, hz⟩ := I1.list hq
    exact set_list (I1.ok.hd hc) pl.isList (by simpa using strsAre_of r) h1 fun h' tk hS hk => fin its r h' tk hS hk
  · obtain ⟨its, r, pl, hz⟩ := I1.tuple hq
    exact set_tuple (I1.ok.hd hc) pl (by simpa using strsAre_of r) h1 fun h' tk hS hk => fin its r h' tk hS hk
end Pw

set_option Elab.async false
set_option linter.all false
set_option maxRecDepth 100000
set_option maxHeartbeats 2000000
namespace Pw
open PySem PySem.Spec PyProof.Rows
/-! texts in order, each list of them just once -/
theorem rising_pw : ∀ (p : Str) (l : List Str), risingS p l = true → (p :: l).Pairwise (fun a b => a.cps.toList ≤ b.cps.toList)
  | p, [], _ => List.pairwise_singleton _ _
  | p, x :: r, h => by
    have h2 : (!ltCps x.cps.toList p.cps.toList && risingS x r) = true := h
    rw [Bool.and_eq_true] at h2
    have ih := rising_pw x r h2.2
    have h3 : ¬ (x.cps.toList < p.cps.toList) := by
      have := h2.1
      rw [ltCps_eq] at this
      simpa using this
    have h4 : p.cps.toList ≤ x.cps.toList := h3
    refine List.pairwise_cons.mpr ⟨fun b hb => ?_, ih⟩
    rcases List.mem_cons.mp hb with rfl | hb
    · exact h4
    · exact List.le_trans h4 ((List.pairwise_cons.mp ih).1 b hb)
theorem sortedS_pw {l : List Str} (h : sortedS l = true) : l.Pairwise (fun a b => a.cps.toList ≤ b.cps.toList) := by
  cases l with
  | nil => exact List.Pairwise.nil
  | cons x r => exact rising_pw x r h
theorem str_eq {a b : Str} (h : a.cps.toList = b.cps.toList) : a = b := by
  cases a with
  | mk x =>
    cases b with
    | mk y =>
      have : x = y := Array.toList_inj.mp h
      rw [this]
theorem sortedS_one {a b : List Str} (p : a.Perm b) (ha : sortedS a = true) (hb : sortedS b = true) : a = b :=
  List.Perm.eq_of_pairwise (le := fun a b => a.cps.toList ≤ b.cps.toList) (fun x y _ _ h1 h2 => str_eq (List.le_antisymm h1 h2)) (sortedS_pw ha) (sortedS_pw hb) p
/-! sorted(tuple of texts) -/
section
variable {prog : Program} {w : World} {A : Around} {E : Value → Shared → Prop} {s : Shared}
theorem sorted_strsT {l : Addr} {vs : List Value} {ss : List Str} {Q : Value → Shared → Prop} (hl : IsTup s.heap l vs.toArray) (hS : StrsAre vs ss) (h64 : vs.length < 64)
    (h : ∀ (g : Heap) (out : Array Value) (ss' : List Str), (∀ b o, s.heap.get? b = some o → g.get? b = some o) → StrsAre out.toList ss' → ss'.Perm ss → sortedS ss' = true →
      Q (.ref g.objs.size) { s with heap := sortedHeap (g.push (seqObj "list" vs.toArray 0)) g.objs.size vs out }) :
    wpAny (model prog w) A (call (.builtin "sorted") [.ref l]) Q E s := by
  obtain ⟨o, ho, hc, n, hd⟩ := hl
  have hz : vs.toArray.size ≤ sizeLine := by
    rw [List.size_toArray, sizeLine_eq]
    omega
  refine Calls.call_function_entry kind_sorted plain_sorted entry_sorted (args_sorted1 _) ?_
  unfold Builtin.«sorted»
  refine wpAny_bind (m := checkCount "sorted" 1 1 _) (wpAny_pure (wpAny_bind (wpAny_collect_seq l (.inr rfl) ho hc hd (fun g hk => wpAny_bind (wpAny_newList ?_)) hz)))
  have hg : (g.push (seqObj "list" vs.toArray 0)).get? g.objs.size = some (seqObj "list" vs.toArray 0) := Heap.get?_push_size _ rfl
  refine wpAny_bind (wpAny_holding (wpAny_call_entry (s := { s with heap := g.push (seqObj "list" vs.toArray 0) }) slot_list_sort ⟨_, hg, rfl⟩ entry_list_sort
    (list_sort_treeK strKind_oneLt hg hS.keysOf (fun v₁ v₂ rest e => keyKind_strs (by rw [← e]; exact hS)) h64 fun st' a1 a2 => ⟨_, rfl, ?_⟩) (args_list_sort _)))
  obtain ⟨ss', h1, h2, h3⟩ := sorted_out_str hS a1 a2
  exact wpAny_pure ⟨_, rfl, h g _ ss' hk h1 h2 h3⟩
end
open L2
/-- sorted(xs), xs a list or a tuple of texts -/
def rSortedST (K : PySem.W.Frag) : List V → Hp → VK → Prop := fun vs H Q => ∃ (a : Addr) (xs : List Str), vs = [V.ref a] ∧ (SqL K H a (xs.map V.str) ∨ SqT K H a (xs.map V.str)) ∧ xs.length < 64 ∧
  ∀ (ys : List Str) (p : Addr), ys.Perm xs → sortedS ys = true → H p = none → Q (.ref p) (upd H p (.lst (ys.map V.str)))
theorem cr_sortedST {X : Cx} : CallR X (.builtin "sorted") (rSortedST X.K) := by
  intro pins s σ H vs us Q I r h
  obtain ⟨a, xs, rfl, hs, h64, q⟩ := h
  rcases hs with hs | hs
  · exact cr_sortedS pins s σ H [V.ref a] us Q I r ⟨a, xs, rfl, hs, h64, q⟩
  · obtain ⟨its, rv, hl, _⟩ := I.tuple hs
    rw [Vals.ref1 r]
    have hlen0 := rv.length
    rw [List.length_map] at hlen0
    refine sorted_strsT hl rv.strs (by rw [← hlen0]; exact h64) fun g out ys hk h1 h2 h3 => ?_
    have I1 : Inv X pins σ H { s with heap := g } := I.kept hk
    have hg : (g.push (seqObj "list" its.toArray 0)).get? g.objs.size = some (seqObj "list" its.toArray 0) := Heap.get?_push_size _ rfl
    obtain ⟨ep, he'⟩ := sortedHeap_at (out := out) hg
    have hlen : (ys.map V.str).length ≤ sizeLine := by rw [List.length_map, h2.length_eq]; exact small64 h64
    refine ⟨.ref _, upd H g.objs.size (.lst (ys.map V.str)), I1.laid (t' := s.toks) (fun b o e => ?_) (Nat.le_refl _) ⟨hlen, out.toList, ep, vals_of_strs h1, he'⟩, rfl, q ys _ h2 h3 (I1.hok.fresh (Nat.le_refl _))⟩
    have hb : b < g.objs.size := Heap.lt_size e
    rw [sortedHeap_old (Nat.ne_of_lt hb) (Nat.lt_of_lt_of_le hb (by rw [Heap.size_push]; exact Nat.le_succ _))]
    exact Heap.get?_push_of_some _ e
end Pw

set_option Elab.async false
set_option linter.all false
set_option maxRecDepth 100000
set_option maxHeartbeats 4000000
/-! sorted(list of texts), as many as there may be -/
namespace Pw
open PySem PySem.Spec PyProof.Rows L2 TL PySem.W
/-- texts in their order -/
def sortW (xs : List Str) : List Str := xs.mergeSort fun a b => decide (a.cps.toList ≤ b.cps.toList)
theorem le_trW : ∀ a b c : Str, decide (a.cps.toList ≤ b.cps.toList) = true → decide (b.cps.toList ≤ c.cps.toList) = true → decide (a.cps.toList ≤ c.cps.toList) = true := fun a b c h1 h2 =>
  decide_eq_true (List.le_trans (of_decide_eq_true h1) (of_decide_eq_true h2))
theorem le_toW : ∀ a b : Str, (decide (a.cps.toList ≤ b.cps.toList) || decide (b.cps.toList ≤ a.cps.toList)) = true := fun a b => by
  rcases List.le_total a.cps.toList b.cps.toList with h | h
  · rw [decide_eq_true h]
    rfl
  · rw [decide_eq_true h, Bool.or_true]
theorem sortW_perm (xs : List Str) : (sortW xs).Perm xs := List.mergeSort_perm ..
theorem sortW_ord (xs : List Str) : (sortW xs).Pairwise fun a b => a.cps.toList ≤ b.cps.toList := (List.pairwise_mergeSort le_trW le_toW xs).imp fun h => of_decide_eq_true h
theorem sortW_eq {xs ys : List Str} (h : xs.Perm ys) : sortW xs = sortW ys := by
  refine List.Perm.eq_of_pairwise (fun a b _ _ h1 h2 => ?_) (sortW_ord xs) (sortW_ord ys) ((sortW_perm xs).trans (h.trans (sortW_perm ys).symm))
  have e := List.le_antisymm h1 h2
  obtain ⟨a⟩ := a
  obtain ⟨b⟩ := b
  exact congrArg Str.mk (Array.toList_inj.mp e)
section
variable {X : Cx}
def rSortW (K : PySem.W.Frag) : List V → Hp → VK → Prop := fun vs H Q => ∃ (a : Addr) (xs : List Str), vs = [V.ref a] ∧ SqL K H a (xs.map V.str) ∧ ∀ p, H p = none → Q (.ref p) (upd H p (.lst ((sortW xs).map V.str)))
theorem vals_eachW : ∀ {xs : List Str} {its : List Value}, Vals (xs.map V.str) its → EachIs (fun v (b : Str) => ∃ t, v = Value.str b t) its xs
  | [], _, h => by
    cases h
    exact .nil
  | x :: xs, _, h => by
    cases h with
    | cons h1 h2 => exact .cons h1 (vals_eachW h2)
theorem each_valsW : ∀ {xs : List Str} {its : List Value}, EachIs (fun v (b : Str) => ∃ t, v = Value.str b t) its xs → Vals (xs.map V.str) its
  | _, _, .nil => .nil
  | _, _, .cons h t => .cons h (each_valsW t)
theorem cr_sortW (hu : X.A.units + 64 < cLine) : CallR X (.builtin "sorted") (rSortW X.K) := by
  intro pins s σ H vs us Q I r h
  obtain ⟨a, xs, rfl, hs, q⟩ := h
  obtain ⟨its, rv, hl, hz⟩ := I.list hs
  obtain ⟨u, rfl, ru⟩ := vals1 r
  obtain rfl : u = Value.ref a := ru
  have e := vals_eachW rv
  have er : EachIs (fun v (b : Str) => ∃ as, Reads s.heap v (PyData.str b) as) its xs := e.mono fun v b ⟨t, z⟩ => ⟨_, by rw [z]; exact Reads.str b t⟩
  have hz2 : xs.length ≤ sizeLine := by
    have := rv.length
    rw [List.length_map] at this
    rw [List.length_map] at hz
    exact hz
  refine sorted_data (enc := fun b : Str => PyData.str b) hl.isList e er (AllAlike.of fun _ _ => by simp [alike]) (Sortable.others fun _ => ⟨by simp, by simp⟩) hz2 (fun b _ => ?_) fun out ho eo => ?_
  · have hd : (PyData.str b).depth = 0 := by simp [PyData.depth]
    omega
  · have hsort : (xs.mergeSort (dataLe false fun b : Str => PyData.str b)) = sortW xs := by
      unfold sortW
      rw [dataLe_str (β := Str) (fun b => b)]
    rw [hsort] at eo
    have hv := each_valsW eo
    obtain ⟨n, hn⟩ := sortedAll_at s.heap its out.toArray
    have hz3 : ((sortW xs).map V.str).length ≤ sizeLine := by rw [List.length_map, (sortW_perm xs).length_eq]; exact hz2
    refine ⟨.ref (s.heap.objs.size + 1), upd H (s.heap.objs.size + 1) (.lst ((sortW xs).map V.str)), I.laid (t' := s.toks) (fun b o e => sortedAll_old e) (Nat.le_succ _) ⟨hz3, out, n, hv, hn⟩, rfl, q _ (I.hok.fresh (Nat.le_succ _))⟩
end
end Pw

set_option Elab.async false
set_option linter.all false
set_option maxRecDepth 100000
set_option maxHeartbeats 4000000
/-! sorted(tuple of texts), as many as there may be -/
namespace Pw
open PySem PySem.Spec PyProof.Rows L2 TL PySem.W
section
variable {prog : Program} {w : World} {A : Around} {E : Value → Shared → Prop} {s : Shared}
theorem sorted_dataT {l : Addr} {vs : List Value} {xs : List Str} {Q : Value → Shared → Prop} (hl : IsTup s.heap l vs.toArray) (e : EachIs (fun v (b : Str) => ∃ t, v = Value.str b t) vs xs) (hL : xs.length ≤ sizeLine) (hu : A.units + 64 < cLine)
    (h : ∀ (g : Heap) (out : List Value), (∀ b o, s.heap.get? b = some o → g.get? b = some o) → EachIs (fun v (b : Str) => ∃ t, v = Value.str b t) out (sortW xs) →
      Q (.ref g.objs.size) { s with heap := sortedHeap (g.push (seqObj "list" vs.toArray 0)) g.objs.size vs out.toArray }) :
    wpAny (model prog w) A (call (.builtin "sorted") [.ref l]) Q E s := by
  obtain ⟨o, ho, hc, n, hd⟩ := hl
  have hz : vs.toArray.size ≤ sizeLine := by
    rw [List.size_toArray, e.length]
    exact hL
  refine Calls.call_function_entry kind_sorted plain_sorted entry_sorted (args_sorted1 _) ?_
  unfold Builtin.«sorted»
  refine wpAny_bind (m := checkCount "sorted" 1 1 _) (wpAny_pure (wpAny_bind (wpAny_collect_seq l (.inr rfl) ho hc hd (fun g hk => wpAny_bind (wpAny_newList ?_)) hz)))
  have hg : (g.push (seqObj "list" vs.toArray 0)).get? g.objs.size = some (seqObj "list" vs.toArray 0) := Heap.get?_push_size _ rfl
  have er : EachIs (fun v b => ∃ as, Reads (g.push (seqObj "list" vs.toArray 0)) v (PyData.str b) as ∧ g.objs.size ∉ as) vs xs := e.mono fun v b ⟨t, z⟩ => ⟨_, by rw [z]; exact Reads.str b t, by simp⟩
  refine wpAny_bind (wpAny_holding (list_sort_data (s := { s with heap := g.push (seqObj "list" vs.toArray 0) }) (enc := fun b : Str => PyData.str b) hg e er (AllAlike.of fun _ _ => by simp [alike]) (Sortable.others fun _ => ⟨by simp, by simp⟩) hL (fun b _ => ?_) fun out ho eo => ?_))
  · have hd : (PyData.str b).depth = 0 := by simp [PyData.depth]
    have h1 : A.in1.units ≤ A.units + 60 := by
      show A.units + _ ≤ _
      omega
    omega
  · have hsort : (xs.mergeSort (dataLe false fun b : Str => PyData.str b)) = sortW xs := by
      unfold sortW
      rw [dataLe_str (β := Str) (fun b => b)]
    rw [hsort] at eo
    exact wpAny_pure ⟨_, rfl, h g out hk eo⟩
end
section
variable {X : Cx}
def rSortTW (K : PySem.W.Frag) : List V → Hp → VK → Prop := fun vs H Q => ∃ (a : Addr) (xs : List Str), vs = [V.ref a] ∧ SqT K H a (xs.map V.str) ∧ ∀ p, H p = none → Q (.ref p) (upd H p (.lst ((sortW xs).map V.str)))
theorem cr_sortTW (hu : X.A.units + 64 < cLine) : CallR X (.builtin "sorted") (rSortTW X.K) := by
  intro pins s σ H vs us Q I r h
  obtain ⟨a, xs, rfl, hs, q⟩ := h
  obtain ⟨its, rv, hl, hz⟩ := I.tuple hs
  rw [Vals.ref1 r]
  have e := vals_eachW rv
  have hz2 : xs.length ≤ sizeLine := by
    have := rv.length
    rw [List.length_map] at this hz
    exact hz
  refine sorted_dataT hl e hz2 hu fun g out hk eo => ?_
  have I1 : Inv X pins σ H { s with heap := g } := I.kept hk
  have hg : (g.push (seqObj "list" its.toArray 0)).get? g.objs.size = some (seqObj "list" its.toArray 0) := Heap.get?_push_size _ rfl
  obtain ⟨ep, he'⟩ := sortedHeap_at (out := out.toArray) hg
  have hlen : ((sortW xs).map V.str).length ≤ sizeLine := by rw [List.length_map, (sortW_perm xs).length_eq]; exact hz2
  refine ⟨.ref _, upd H g.objs.size (.lst ((sortW xs).map V.str)), I1.laid (t' := s.toks) (fun b o e => ?_) (Nat.le_refl _) ⟨hlen, out, ep, each_valsW eo, he'⟩, rfl, q _ (I1.hok.fresh (Nat.le_refl _))⟩
  have hb : b < g.objs.size := Heap.lt_size e
  rw [sortedHeap_old (Nat.ne_of_lt hb) (Nat.lt_of_lt_of_le hb (by rw [Heap.size_push]; exact Nat.le_succ _))]
  exact Heap.get?_push_of_some _ e
end
end Pw

set_option Elab.async false
set_option linter.all false
set_option maxRecDepth 100000
set_option maxHeartbeats 4000000
namespace Pw
open PySem PySem.Spec PyProof.Rows L2 TL
/-- what an answer other than NotImplemented is worth -/
theorem back_of {R : Value → Shared → Prop} {z : V} {v : Value} {s1 : Shared} (r : RelV z v) (h : R v s1) : PySem.W.CmpBack R v s1 := by
  cases z with
  | non =>
    obtain rfl : v = Value.none := r
    exact h
  | bl b =>
    obtain rfl : v = Value.bool b := r
    exact h
  | int i =>
    obtain ⟨t, rfl⟩ : ∃ t, v = Value.int i t := r
    exact h
  | str x =>
    obtain ⟨t, rfl⟩ : ∃ t, v = Value.str x t := r
    exact h
  | byt b =>
    obtain ⟨t, rfl⟩ : ∃ t, v = Value.bytes b t := r
    exact h
  | flt b =>
    obtain ⟨t, rfl⟩ : ∃ t, v = Value.float b t := r
    exact h
  | ref a =>
    obtain rfl : v = Value.ref a := r
    exact h
  | ty n =>
    obtain rfl : v = Value.type n := r
    exact h
/-- a def of a class's own, as an operator has it: run at any place A below the running body -/
structure OwnDef (X : Cx) (C : Addr) (name : Str) (n : Nat) (sp : Sp) : Prop where
  ex : ∃ f, PySem.W.findIn X.K (.ref C) name = some (some (.ref f)) ∧ PySem.W.isFn X.K (.ref f) = true ∧
    ∀ (A : Around) (pins : List (Addr × Obj)) (s : Shared) (σ : L2.St) (H : Hp) (vs : List V) (us : List Value) (Q : VK), Room n A → A.frames = X.A.frames → A.guards = X.A.guards → Inv X pins σ H s → Vals vs us → sp vs H Q (fun _ _ _ => False) →
      wpAny (model X.prog X.w) A (call (.ref f) us) (EP X pins σ Q) X.xe s
theorem env0_at {X : Cx} {A : Around} {pins : List (Addr × Obj)} {σ : L2.St} {H : Hp} {s : Shared} (I : Inv X pins σ H s) (hf : A.frames = X.A.frames) : Env0 X.prog X.w X.K X.mg X.base A X.stack s H := by
  have e := I.env0
  exact ⟨hf.trans e.frames, e.mod, e.bs, e.bsz, e.funs, e.frf, e.hok, e.bare⟩
theorem own_of {X : Cx} {C f : Addr} {name : Str} {n : Nat} {fd : FuncData} {ps : List Str} {sp : Sp} (F : FnOk X.prog X.w X.K X.mg X.base CX0 n f fd ps sp) (hs : PySem.W.findIn X.K (.ref C) name = some (some (.ref f))) (hf : PySem.W.isFn X.K (.ref f) = true) (hb : Binds X.K fd ps []) :
    OwnDef X C name n sp := by
  refine ⟨f, hs, hf, fun A pins s σ H vs us Q rm hfr _ I r h => ?_⟩
  have hl := F.len _ _ _ _ h
  have hu : us.length = ps.length := r.length.symm.trans hl
  have hbd : BindsTo s fd ⟨us, []⟩ (ps.zip us) := by
    have := hb s us I.kIn (by rw [List.append_nil]; exact hu)
    rw [List.append_nil] at this
    exact this
  refine wpAny_call (codeAny_mono (F.run A X.stack s H ⟨us, []⟩ us vs Q (fun _ _ _ => False) rm (env0_at I hfr) hbd r h) fun res s1 hq => ?_)
  cases res with
  | error e => exact False.elim hq
  | ok fl =>
    cases fl with
    | ret u => exact I.after hq
    | next => exact False.elim hq
    | brk => exact False.elim hq
    | cont => exact False.elim hq
/-- x == y, x an instance with its own __eq__, y anything of a type that is not below -/
def rOwnEq (K : PySem.W.Frag) (C : Addr) (sp : Sp) : R2 := fun x y H Q => ∃ a dx fs t, x = .ref a ∧ H a = some (.ins C dx fs) ∧ TyX K H y t ∧ PySem.W.notFirst K C t = true ∧ sp [x, y] H Q (fun _ _ _ => False)
theorem rich_own {X : Cx} {C : Addr} {n : Nat} {sp : Sp} (D : OwnDef X C "__eq__" n sp) {A : Around} (rm : Room n A) (hfr : A.frames = X.A.frames) (hgd : A.guards = X.A.guards) {pins : List (Addr × Obj)} {s : Shared} {σ : L2.St} {H : Hp} {x y : V} {v u : Value} {Q : VK} (I : Inv X pins σ H s) (rx : RelV x v) (ry : RelV y u) (h : rOwnEq X.K C sp x y H Q) :
    wpAny (model X.prog X.w) A (richCompare .Eq v u) (EP X pins σ Q) X.xe s := by
  obtain ⟨a, dx, fs, t, rfl, ha, ty, hn, q⟩ := h
  obtain rfl : v = Value.ref a := rx
  obtain ⟨f, hs, hf, run⟩ := D.ex
  obtain ⟨mA, J, _⟩ := ins_get I.hok ha
  obtain ⟨od, J, _⟩ := J.look
  obtain ⟨m, hF⟩ := I.fr
  obtain ⟨Pz, Kz, pz, _⟩ := kit_of I ry ty
  refine PySem.W.cmp_K (op := .Eq) (tb := t) rm.units0 hF I.ok.mod.kin J (Kz.ty _ _ I.kIn pz) hn hs hf ?_
  refine wpAny_mono (run A pins s σ H [.ref a, y] [.ref a, u] Q rm hfr hgd I (.cons rfl (.cons ry .nil)) q) (fun w s1 z => ?_) fun _ _ e => e
  obtain ⟨z1, H1, I1, r1, q1⟩ := z
  exact back_of r1 ⟨z1, H1, I1, r1, q1⟩
theorem op_eqOwn {X : Cx} {C : Addr} {n : Nat} {sp : Sp} (D : OwnDef X C "__eq__" n sp) (hr : Room n X.A) : OpR X (compareOp .Eq) (rOwnEq X.K C sp) := fun pins s σ H x y v u Q I rx ry h =>
  rich_own D hr rfl rfl I rx ry h
section
variable {prog : Program} {w : World} {A : Around} {E : Value → Shared → Prop} {s : Shared} {K : PySem.W.Frag} {x C f : Addr} {ox : Obj} {od : Option Obj}
/-- a special method that is a built-in's -/
theorem bound_blt {M : Model} {name : Str} {id : String} {args : List Value} {R : Option Value → Shared → Prop} (kin : K.In s.heap) (J : PySem.W.InstAt s.heap x ox C od) (hs : PySem.W.findIn K (.ref C) name = some (some (.builtin id)))
    (hb : ∀ z, bindSpecial (.builtin id) z = pure (.builtin id, [z])) (h : wpAny M A (call (.builtin id) (.ref x :: args)) (fun v => R (some v)) E s) : wpAny M A (callSpecialIfBound? (.ref x) name args) R E s := by
  have last : wpAny M A (call (.builtin id) ([.ref x] ++ args) >>= fun v => pure (some v)) R E s := wpAny_bind (wpAny_mono h (fun v s1 q => wpAny_pure q) fun _ _ q => q)
  simp only [bindSpecialIfBound?, callSpecialIfBound?]
  refine wpAny_holding (wpAny_bind (wpAny_bind (wpAny_bind (J.type.here ((PySem.W.looks_findIn kin hs).here (wpAny_bind (wpAny_askSetting (wpAny_ite ?_))))))))
  split
  · exact wpAny_bind ((PySem.W.Looks.of_pure (hb _)).here (wpAny_pure (by exact last)))
  · exact wpAny_tryCatch (wpAny_bind ((PySem.W.Looks.of_pure (hb _)).here (wpAny_pure (by exact last))))
/-- object.__ne__ of an instance whose __eq__ tells b -/
theorem obj_ne {b : Value} {R : Value → Shared → Prop} (hu : A.in1.units < cLine) (kin : K.In s.heap) (J : PySem.W.InstAt s.heap x ox C od) (hm : PySem.W.mroIn K C (.type "object") = some true) (hs : PySem.W.findIn K (.ref C) "__eq__" = some (some (.ref f))) (hf : PySem.W.isFn K (.ref f) = true)
    (h : wpAny (model prog w) A.in1 (call (.ref f) [.ref x, b]) (fun v s1 => ∃ c : Bool, v = .bool c ∧ R (.bool (!c)) s1) E s) : wpAny (model prog w) A (call (.builtin "object.__ne__") [.ref x, b]) R E s := by
  refine wpAny_call (codeAny_call_builtin PySem.F.slot_object_ne.plain PySem.F.cmpEntry_ne (PySem.W.check_slot (i := "object.__ne__") (owner := "object") (n := "__ne__") PySem.F.cmpKind_ne PySem.F.cmpSplit_ne (J.type.andThen (PySem.W.looks_mroIn kin hm)) (PySem.F.cmpArgs_ne _ _) ?_))
  unfold Builtin.«object.__ne__»
  refine wpAny_bind (m := slotArgs "__ne__" 1 _) (wpAny_pure (wpAny_bind (m := cRoomFor _ _) (wpAny_cRoomFor hu ?_)))
  refine wpAny_bind (m := callSpecialIfBound? (.ref x) (Str.ofString "__eq__") _) (PySem.W.ifBound_K kin J hs hf (wpAny_mono h (fun r s1 q => ?_) fun _ _ q => q))
  obtain ⟨c, rfl, q⟩ := q
  exact wpAny_bind (wpAny_truthy_bool (wpAny_pure q))
theorem rich_ne {b tb : Value} {R : Value → Shared → Prop} (hu : A.units < cLine) (hu1 : A.in1.units < cLine) (kin : K.In s.heap) (J : PySem.W.InstAt s.heap x ox C od) (hb : PySem.W.Looks (model prog w) s.heap (typeOf b) tb) (hn : PySem.W.notFirst K C tb = true) (hm : PySem.W.mroIn K C (.type "object") = some true)
    (hne : PySem.W.findIn K (.ref C) "__ne__" = some (some (.builtin "object.__ne__"))) (hs : PySem.W.findIn K (.ref C) "__eq__" = some (some (.ref f))) (hf : PySem.W.isFn K (.ref f) = true)
    (h : wpAny (model prog w) A.in1 (call (.ref f) [.ref x, b]) (fun v s1 => ∃ c : Bool, v = .bool c ∧ R (.bool (!c)) s1) E s) : wpAny (model prog w) A (richCompare .NotEq (.ref x) b) R E s := by
  have first : wpAny (model prog w) A (tryCompare (.ref x) (Str.ofString "__ne__") b) (fun r s1 => ∃ c : Bool, r = some (.bool c) ∧ R (.bool c) s1) E s := by
    unfold tryCompare
    refine wpAny_bind (bound_blt kin J hne PySem.F.slot_object_ne.bind (obj_ne hu1 kin J hm hs hf (wpAny_mono h (fun v s1 q => ?_) fun _ _ q => q)))
    obtain ⟨c, rfl, q⟩ := q
    exact ⟨c, rfl, wpAny_pure ⟨_, rfl, q⟩⟩
  unfold richCompare
  simp only [oneThing_ref]
  refine wpAny_holding (wpAny_bind (wpAny_cRoomFor hu (wpAny_bind (J.type.here (wpAny_bind (hb.here ?_))))))
  split
  · rename_i q
    have e : PySem.W.subIn K tb (.ref C) = some false := by
      rcases Bool.or_eq_true_iff.mp hn with z | z
      · have z2 := beq_iff_eq.mp z
        rw [z2] at q
        simp at q
      · exact beq_iff_eq.mp z
    refine wpAny_bind ((PySem.W.looks_subIn kin e).here ?_)
    simp only [Bool.false_eq_true, if_false]
    refine wpAny_bind (wpAny_mono first (fun r s1 z => ?_) fun _ _ z => z)
    obtain ⟨c, rfl, q⟩ := z
    exact wpAny_pure q
  · refine wpAny_bind (wpAny_pure ?_)
    simp only [Bool.false_eq_true, if_false]
    refine wpAny_bind (wpAny_mono first (fun r s1 z => ?_) fun _ _ z => z)
    obtain ⟨c, rfl, q⟩ := z
    exact wpAny_pure q
end
/-- x != y by the own __eq__ -/
def rOwnNe (K : PySem.W.Frag) (C : Addr) (sp : Sp) : R2 := fun x y H Q => ∃ a dx fs t, x = .ref a ∧ H a = some (.ins C dx fs) ∧ TyX K H y t ∧ PySem.W.notFirst K C t = true ∧ sp [x, y] H (fun v H1 => ∃ b, v = .bl b ∧ Q (.bl (!b)) H1) (fun _ _ _ => False)
theorem op_neOwn {X : Cx} {C : Addr} {n : Nat} {sp : Sp} (D : OwnDef X C "__eq__" n sp) (hr : Room (n + 1) X.A) (hm : PySem.W.mroIn X.K C (.type "object") = some true) (hne : PySem.W.findIn X.K (.ref C) "__ne__" = some (some (.builtin "object.__ne__"))) : OpR X (compareOp .NotEq) (rOwnNe X.K C sp) := by
  intro pins s σ H x y v u Q I rx ry h
  obtain ⟨a, dx, fs, t, rfl, ha, ty, hn, q⟩ := h
  obtain rfl : v = Value.ref a := rx
  obtain ⟨f, hs, hf, run⟩ := D.ex
  obtain ⟨mA, J, _⟩ := ins_get I.hok ha
  obtain ⟨od, J, _⟩ := J.look
  obtain ⟨Pz, Kz, pz, _⟩ := kit_of I ry ty
  have r1 : Room n X.A.in1 := Room.in1 hr
  show wpAny _ _ (richCompare .NotEq (.ref a) u) _ _ s
  refine rich_ne hr.units0 r1.units0 I.kIn J (Kz.ty _ _ I.kIn pz) hn hm hne hs hf ?_
  refine wpAny_mono (run X.A.in1 pins s σ H [.ref a, y] [.ref a, u] _ r1 rfl rfl I (.cons rfl (.cons ry .nil)) q) (fun w s1 z => ?_) fun _ _ e => e
  obtain ⟨z1, H1, I1, rz, b, rfl, q1⟩ := z
  obtain rfl : w = Value.bool b := rz
  exact ⟨b, rfl, .bl (!b), H1, I1, rfl, q1⟩
end Pw
namespace Pw
open PySem PySem.SeqAt
open AutoSeq1 (wpAny_loadPart')
open MeetsSeq MeetsSeq2 MeetsSeq3 SeqRoads2
section
variable {prog : Program} {w : World} {A : Around} {E : Value → Shared → Prop} {s : Shared}
/-- x in [y]: one comparison -/
theorem in_one {l : Addr} {y x : Value} {R : Value → Shared → Prop} (I : Shared → Prop) (hI : ∀ s1, I s1 → ∃ n dd sl items, s1.heap.get? l = some { cls := .type "list", dict := dd, data := .seq items n, slots := sl } ∧ items[0]? = some y ∧ items[1]? = none) (h0 : I s)
    (h : wpAny (model prog w) A.in1 (eqBool y x) (fun r s1 => I s1 ∧ R (.bool r) s1) E s) : wpAny (model prog w) A (compareOp .In x (.ref l)) R E s := by
  obtain ⟨n, dd, sl, items, hl, hy, _⟩ := hI s h0
  show wpAny _ A (do return .bool (← contains (.ref l) x)) R E s
  refine wpAny_bind (wpAny_contains_slot ⟨_, hl, rfl⟩ F.slot_list_contains (wpAny_mono (Q := fun v s1 => ∃ b, v = .bool b ∧ R (.bool b) s1) (GQ.call_here F.slot_list_contains ⟨_, hl, rfl⟩ F.entry_list_contains (F.args_list_contains_2 _ _) ?_) (fun v s1 q => ?_) fun _ _ z => z))
  · have last : ∀ s1, I s1 → R (.bool false) s1 → wpAny (model prog w) A.in1 (Builtin.«list.__contains__.loop» ⟨[.ref l, x, rawInt 1], []⟩) (GQ.FinOf prog w A (wants (fun v s1 => ∃ b, v = .bool b ∧ R (.bool b) s1) E)) (fun e s1 => wants (fun v s1 => ∃ b, v = .bool b ∧ R (.bool b) s1) E (.error e) s1) s1 := fun s1 i1 r1 => by
      obtain ⟨n1, dd1, sl1, items1, hl1, _, hy1⟩ := hI s1 i1
      obtain ⟨hp, g, d, tk, os⟩ := s1
      wp_walk using wpAny_loadPart' hl1
      rw [show items1[(1 : Int).toNat]? = none from hy1]
      wp_walk
      exact ⟨_, rfl, r1⟩
    have one : wpAny (model prog w) A.in1 (Builtin.«list.__contains__.loop» ⟨[.ref l, x, rawInt 0], []⟩) (GQ.FinOf prog w A (wants (fun v s1 => ∃ b, v = .bool b ∧ R (.bool b) s1) E)) (fun e s1 => wants (fun v s1 => ∃ b, v = .bool b ∧ R (.bool b) s1) E (.error e) s1) s := by
      obtain ⟨hp, g, d, tk, os⟩ := s
      wp_walk using wpAny_loadPart' hl
      rw [show items[(0 : Int).toNat]? = some y from hy]
      refine wpAny_bind (wpAny_mono h (fun r s1 q => ?_) fun _ _ z => z)
      cases r with
      | true =>
        obtain ⟨hp1, g1, d1, tk1, os1⟩ := s1
        wp_walk
        exact ⟨_, rfl, q.2⟩
      | false =>
        have z := last s1 q.1 q.2
        obtain ⟨hp1, g1, d1, tk1, os1⟩ := s1
        wp_walk
        exact ⟨plainId_quiet plain_contains_loop _, codeAny_builtin entry_contains_loop (by
          rw [Around.under_plainId plain_contains_loop _]
          exact z)⟩
    obtain ⟨hp, g, d, tk, os⟩ := s
    wp_walk
    exact ⟨plainId_quiet plain_contains_loop _, codeAny_builtin entry_contains_loop (by
      rw [Around.under_plainId plain_contains_loop _]
      exact one)⟩
  · obtain ⟨b, rfl, q⟩ := q
    exact wpAny_truthy_bool (wpAny_pure q)
end
end Pw
namespace Pw
open PySem PySem.Spec PyProof.Rows L2 TL
/-- x in [y], y an instance with its own __eq__ -/
def rOwnIn (K : PySem.W.Frag) (C : Addr) (sp : Sp) : R2 := fun x y H Q => ∃ l a dx fs b t, y = .ref l ∧ H l = some (.lst [.ref a]) ∧ H a = some (.ins C dx fs) ∧ x = .ref b ∧ a ≠ b ∧ TyX K H x t ∧ PySem.W.notFirst K C t = true ∧
  sp [.ref a, x] H (fun v H1 => ∃ r, v = .bl r ∧ H1 l = some (.lst [.ref a]) ∧ Q (.bl r) H1) (fun _ _ _ => False)
theorem op_inOwn {X : Cx} {C : Addr} {n : Nat} {sp : Sp} (D : OwnDef X C "__eq__" n sp) (hr : Room (n + 1) X.A) : OpR X (compareOp .In) (rOwnIn X.K C sp) := by
  intro pins s σ H x y v u Q I rx ry h
  obtain ⟨l, a, dx, fs, b, t, rfl, hl, ha, rfl, ne, ty, hn, q⟩ := h
  obtain rfl : v = Value.ref b := rx
  obtain rfl : u = Value.ref l := ry
  refine in_one (y := .ref a) (fun s1 => ∃ H1, Inv X pins σ H1 s1 ∧ H1 l = some (.lst [.ref a])) (fun s1 hs => ?_) ⟨H, I, hl⟩ (GQ.eqBool_refG ne ?_)
  · obtain ⟨H1, I1, h1⟩ := hs
    obtain ⟨its, rv, hL, _⟩ := I1.list (SqL.of h1)
    obtain ⟨o, m, e, hc, hd, hs2⟩ := hL
    have e2 : its = [Value.ref a] := by
      cases rv with
      | cons r1 r2 =>
        cases r2
        rw [show _ = Value.ref a from r1]
    subst e2
    obtain ⟨cls, dd, data, sl⟩ := o
    dsimp only at hc hd hs2
    subst hc
    subst hd
    subst hs2
    exact ⟨m, _, sl, _, e, rfl, rfl⟩
  · refine wpAny_mono (rich_own D (A := X.A.in1) (Room.in1 hr) rfl rfl I (x := .ref a) (y := .ref b) rfl rfl ⟨a, dx, fs, t, rfl, ha, ty, hn, q⟩) (fun w s1 z => ?_) fun _ _ e => e
    obtain ⟨z1, H1, I1, rz, r, rfl, h1, q1⟩ := z
    obtain rfl : w = Value.bool r := rz
    exact ⟨r, rfl, ⟨H1, I1, h1⟩, .bl r, H1, I1, rfl, q1⟩
end Pw

set_option Elab.async false
set_option linter.all false
set_option maxRecDepth 100000
set_option maxHeartbeats 4000000
namespace Pw
open PySem PySem.Spec PyProof.Rows L2 TL
/-- a list of texts as it is shown -/
def wordsText (ys : List Str) : Str := (PyData.list (ys.map PyData.str)).shown
def ShortT (ys : List Str) : Prop := ys.length ≤ 60 ∧ ∀ y ∈ ys, (tl y).length ≤ 1000 ∧ PyData.strOk y = true
theorem show_strs : ∀ ys : List Str, PyData.showableAll (ys.map PyData.str) = true
  | [] => rfl
  | y :: ys => by
    rw [List.map_cons]
    unfold PyData.showableAll
    rw [show_strs ys]
    rfl
theorem nodict_strs : ∀ ys : List Str, PyData.hasDictAll (ys.map PyData.str) = false
  | [] => by simp [PyData.hasDictAll]
  | y :: ys => by
    rw [List.map_cons]
    simp only [PyData.hasDictAll]
    rw [nodict_strs ys]
    simp [PyData.hasDict]
theorem depth_strs : ∀ ys : List Str, PyData.depthAll (ys.map PyData.str) ≤ 1
  | [] => by simp [PyData.depthAll]
  | y :: ys => by
    have := depth_strs ys
    rw [List.map_cons]
    simp only [PyData.depthAll, PyData.depth]
    omega
theorem words_len {ys : List Str} (h : ShortT ys) : (wordsText ys).length ≤ 700000 := by
  have e : wordsText ys = listText ((ys.map PyData.str).map PyData.shown) := by
    unfold wordsText
    simp only [PyData.shown]
    rw [shownAll_eq_map]
  rw [e]
  have h1 := listText_len_le ((ys.map PyData.str).map PyData.shown)
  have h2 : ∀ (zs : List Str), (∀ y ∈ zs, (tl y).length ≤ 1000 ∧ PyData.strOk y = true) → (((zs.map PyData.str).map PyData.shown).map (·.length)).sum ≤ zs.length * 10002 := by
    intro zs
    induction zs with
    | nil => intro _; exact Nat.zero_le _
    | cons z r ih =>
      intro hz
      have a1 := ih fun y hy => hz y (List.mem_cons_of_mem _ hy)
      obtain ⟨b1, b2⟩ := hz z List.mem_cons_self
      have a2 : (PyData.str z).shown.length ≤ 10002 := by
        rw [PyData.shown_str]
        have c1 := StrLaws.reprText_len z fun c hc => by
          unfold PyData.strOk at b2
          rw [Array.all_eq_true_iff_forall_mem] at b2
          have := b2 c (Array.mem_toList_iff.mp hc)
          simp at this
          omega
        rw [len_tl z] at c1
        omega
      rw [List.map_cons, List.map_cons, List.map_cons, List.sum_cons, List.length_cons]
      omega
  have h3 := h2 ys h.2
  have h4 := h.1
  rw [List.length_map, List.length_map] at h1
  omega
theorem words_dp {K : PySem.W.Frag} {H : Hp} : ∀ ys : List Str, DpAll K H (ys.map V.str) (ys.map PyData.str)
  | [] => .nil
  | y :: ys => .cons (.str y) (words_dp ys)
section
variable {X : Cx}
theorem words_reads {pins : List (Addr × Obj)} {σ : L2.St} {H : Hp} {s : Shared} {a : Addr} {ys : List Str} (I : Inv X pins σ H s) (h : SqL X.K H a (ys.map V.str)) : ∃ as, Reads s.heap (.ref a) (.list (ys.map PyData.str)) as :=
  Dp.reads I _ (.ref a) (.ref a) (.lst h (words_dp ys)) rfl
theorem words_room {hu : X.A.units + 64 < cLine} (ys : List Str) : X.A.units + ((PyData.list (ys.map PyData.str)).depth + 3) < cLine := by
  have := depth_strs ys
  simp only [PyData.depth]
  omega
/-- str(list of texts) -/
theorem cs_words (hg : X.A.guards = some []) (hu : X.A.units + 64 < cLine) : CallR X (.type "str") (fun xs H Q => ∃ (a : Addr) (ys : List Str), xs = [.ref a] ∧ SqL X.K H a (ys.map V.str) ∧ ShortT ys ∧ Q (.str (wordsText ys)) H) := by
  intro pins s σ H xs us Q I r h
  obtain ⟨a, ys, rfl, hs, hw, q⟩ := h
  rw [Vals.ref1 r]
  obtain ⟨as, rd⟩ := words_reads I hs
  exact str_of_reads rd (show_strs ys) (fun z => by rw [show PyData.hasDict (.list (ys.map PyData.str)) = PyData.hasDictAll (ys.map PyData.str) by simp [PyData.hasDict], nodict_strs ys] at z; cases z) hg (words_room (hu := hu) ys) (fun _ _ e => e)
    (fun h1 u tk hk => ⟨.str _, H, I.kept hk, ⟨_, rfl⟩, q⟩) (Nat.le_trans (words_len hw) (by decide))
/-- {list of texts!r} -/
def tFmtW (K : PySem.W.Frag) (te : TE) : TE := fun σ H Q => te σ H fun x H1 => ∃ (a : Addr) (ys : List Str), x = .ref a ∧ SqL K H1 a (ys.map V.str) ∧ ShortT ys ∧ Q (.str (wordsText ys)) H1
theorem pe_fmtW (hg : X.A.guards = some []) (hu : X.A.units + 64 < cLine) {e : Expr} {te : TE} {pos : Pos} (he : PE X e te) : PE X (.FormattedValue e 114 none pos) (tFmtW X.K te) := by
  refine ⟨fun pins s σ H Q I h => wpAny_FormattedValue_repr (thn (he.run pins s σ H _ I h) fun v s1 hv => ?_)⟩
  obtain ⟨x, H1, I1, r1, a, ys, rfl, hs, hw, q⟩ := hv
  obtain rfl : v = Value.ref a := r1
  obtain ⟨as, rd⟩ := words_reads I1 hs
  have hz : (wordsText ys).length ≤ sizeLine := Nat.le_trans (words_len hw) (by decide)
  have rm := words_room (hu := hu) ys
  exact pyReprObj_of_reads rd (show_strs ys) (fun z => by rw [show PyData.hasDict (.list (ys.map PyData.str)) = PyData.hasDictAll (ys.map PyData.str) by simp [PyData.hasDict], nodict_strs ys] at z; cases z) hg (by omega) (fun _ _ e => e)
    (fun h1 u tk hk => wpAny_formatField_str ⟨.str _, H1, I1.kept hk, ⟨_, rfl⟩, q⟩ ⟨.str _, H1, (I1.kept (t' := tk) hk).tok _, ⟨_, rfl⟩, q⟩ hz) hz
/-- a number or None as str tells it -/
def optText : Option Int → Str
  | none => "None"
  | some i => (toString i : String)
def tFmtO (te : TE) : TE := fun σ H Q => te σ H fun x H1 => ∃ o : Option Int, x = vO o ∧ (∀ i, o = some i → i.natAbs.log2 < 1920) ∧ Q (.str (optText o)) H1
theorem pe_fmtO {e : Expr} {te : TE} {pos : Pos} (he : PE X e te) : PE X (.FormattedValue e (-1) none pos) (tFmtO te) := by
  refine ⟨fun pins s σ H Q I h => wpAny_FormattedValue_plain (thn (he.run pins s σ H _ I h) fun v s1 hv => ?_)⟩
  obtain ⟨x, H1, I1, r1, o, rfl, ho, q⟩ := hv
  cases o with
  | none =>
    obtain rfl : v = Value.none := r1
    exact wpAny_formatField_none ⟨.str _, H1, I1.tok _, ⟨_, rfl⟩, q⟩
  | some i =>
    obtain ⟨t, rfl⟩ : ∃ t, v = Value.int i t := r1
    exact wpAny_formatField_int (ho i rfl) ⟨.str _, H1, I1.tok _, ⟨_, rfl⟩, q⟩
theorem cs_opt : CallR X (.type "str") (fun xs H Q => ∃ o : Option Int, xs = [vO o] ∧ (∀ i, o = some i → i.natAbs.log2 < 1920) ∧ Q (.str (optText o)) H) := by
  intro pins s σ H xs us Q I r h
  obtain ⟨o, rfl, ho, q⟩ := h
  obtain ⟨u, rfl, ru⟩ := r.one
  cases o with
  | none =>
    obtain rfl : u = Value.none := ru
    exact PySem.P.str_of_none ⟨.str _, H, I.tok _, ⟨_, rfl⟩, q⟩
  | some i =>
    obtain ⟨t, rfl⟩ : ∃ t, u = Value.int i t := ru
    exact PySem.P.str_of_int (ho i rfl) ⟨.str _, H, I.tok _, ⟨_, rfl⟩, q⟩
/-- str(x), repr(x) by own defs -/
def rShowOwn (C : Addr) (sp : Sp) : List V → Hp → VK → Prop := fun xs H Q => ∃ a dx fs, xs = [V.ref a] ∧ H a = some (.ins C dx fs) ∧ sp [.ref a] H (fun v H1 => ∃ y, v = .str y ∧ Q (.str y) H1) (fun _ _ _ => False)
theorem cs_own {C : Addr} {n : Nat} {sp : Sp} (D : OwnDef X C "__str__" n sp) (hr : Room (n + 2) X.A) : CallR X (.type "str") (rShowOwn C sp) := by
  intro pins s σ H xs us Q I r h
  obtain ⟨a, dx, fs, rfl, ha, q⟩ := h
  rw [Vals.ref1 r]
  obtain ⟨f, hs, hf, run⟩ := D.ex
  obtain ⟨mA, J, _⟩ := ins_get I.hok ha
  obtain ⟨od, J, _⟩ := J.look
  have r2 : Room n X.A.in1.in1 := (show Room (n + 1) X.A.in1 from Room.in1 hr).in1
  refine PySem.W.kso_call r2.units0 I.kIn J hs hf (wpAny_mono (run X.A.in1.in1 pins s σ H [.ref a] [.ref a] _ r2 rfl rfl I (.cons rfl .nil) q) (fun w s1 z => ?_) fun _ _ e => e)
  obtain ⟨z1, H1, I1, rz, y, rfl, q1⟩ := z
  obtain ⟨t, rfl⟩ : ∃ t, w = Value.str y t := rz
  exact ⟨.str y, H1, I1, ⟨t, rfl⟩, q1⟩
theorem cr_own {C : Addr} {n : Nat} {sp : Sp} (D : OwnDef X C "__repr__" n sp) (hr : Room (n + 1) X.A) : CallR X (.builtin "repr") (rShowOwn C sp) := by
  intro pins s σ H xs us Q I r h
  obtain ⟨a, dx, fs, rfl, ha, q⟩ := h
  rw [Vals.ref1 r]
  obtain ⟨f, hs, hf, run⟩ := D.ex
  obtain ⟨mA, J, _⟩ := ins_get I.hok ha
  obtain ⟨od, J, _⟩ := J.look
  obtain ⟨m, hF⟩ := I.fr
  have r1 : Room n X.A.in1 := Room.in1 hr
  refine PySem.W.repr_K r1.units0 hF I.ok.mod.kin J hs hf (wpAny_mono (run X.A.in1 pins s σ H [.ref a] [.ref a] _ r1 rfl rfl I (.cons rfl .nil) q) (fun w s1 z => ?_) fun _ _ e => e)
  obtain ⟨z1, H1, I1, rz, y, rfl, q1⟩ := z
  obtain ⟨t, rfl⟩ : ∃ t, w = Value.str y t := rz
  exact ⟨.str y, H1, I1, ⟨t, rfl⟩, q1⟩
end
end Pw

set_option Elab.async false
set_option linter.all false
set_option maxRecDepth 100000
set_option maxHeartbeats 4000000
namespace Pw
open PySem PySem.Spec PyProof.Rows L2 TL
/-- as FnOk, where no repr is under way -/
structure FnG (P : Program) (w : World) (K : PySem.W.Frag) (mg : Str → Option Value) (base : Heap) (k : Nat) (f : Addr) (fd : FuncData) (ps : List Str) (sp : Sp) : Prop where
  len : ∀ vs H Q E, sp vs H Q E → vs.length = ps.length
  run : ∀ (A : Around) (out : List Env) (s : Shared) (H : Hp) (us : List Value) (vs : List V) (Q : VK) (E : XK), A.guards = some [] → Room k A → Env0 P w K mg base A out s H → BindsTo s fd ⟨us, []⟩ (ps.zip us) → Vals vs us → sp vs H Q E →
    codeAny (model P w) A (.call (.ref f) ⟨us, []⟩) (CR CX0 out P w H s Q E) s
section
variable {P : Program} {w : World} {K : PySem.W.Frag} {mg : Str → Option Value} {base : Heap}
theorem fnG_of {k : Nat} {f : Addr} {x q : Str} {st : Stmt} {fd : FuncData} {N ps : List Str} {sp : Sp} (F : Fun K x q st f fd) (S : FnScope N ps (defScope st)) (len : ∀ vs H Q E, sp vs H Q E → vs.length = ps.length)
    (body : ∀ (cdv : Value) (A : Around) (out : List Env) (s : Shared) (H : Hp) (vs : List V) (Q : VK) (E : XK), A.guards = some [] → Room k (A.deeper (envOfC q (defScope st) s.heap.objs.size f cdv)) → sp vs H Q E →
      ∃ t, PSs (cxOf CX0 P w K mg base N q (defScope st) f cdv A out s H E).nox (defBody st) t ∧ t { nx := fun _ H1 => Q .non H1, rt := Q } (L2.start N vs) H) : FnG P w K mg base (k + 1) f fd ps sp := by
  obtain ⟨oc, od, kV, doc, pm, an, cdv, ct, osl, rfl, lk, hcd⟩ := F.ex
  refine ⟨len, fun A out s H us vs Q E gd rm ev bd rl hs => ?_⟩
  have kin : K.In s.heap := ev.mod.kin.keeps fun b o z => (ev.bs b o z).1
  have nol : s.heap.NoLimit := ev.mod.nolimit.keeps fun b o z => (ev.bs b o z).1
  have kinds : ∀ y ∈ ps.zip us, (defScope st).names.lookup y.1 = some .local ∨ ((defScope st).names.lookup y.1 = some .cell ∧ ((cellsFrom (s.heap.objs.size + 1) (defScope st).names []).lookup y.1).isSome = true) := by
    rintro ⟨n, v⟩ hy
    rcases S.par n (List.of_mem_zip hy).1 with z | z
    · exact .inl z
    · exact .inr ⟨z, PySem.W.cellsFrom_some _ _ _ (.inl z)⟩
  refine codeAny_call_function rm.depth (kin _ _ lk) rfl S.co S.gen rfl (PySem.W.codeRec_of kin hcd) (bd _ _ _ _ (wpAny_newFunctionEnv_cells S.kind kinds fun env he s1 x1 => ?_))
  subst he
  refine ⟨nol.keeps x1.toInCall.keep, codeAny_func ?_⟩
  obtain ⟨t, ht, hq⟩ := body cdv A out s H vs Q E gd (rm.deeper _) hs
  have J0 : Inv (cxOf CX0 P w K mg base N q (defScope st) f cdv A out s H E) [] (L2.start N vs) H s1 := inv_start S rm.hd ev (len _ _ _ _ hs) rl x1
  refine wpAny_mono (ht.nox.run [] s1 (L2.start N vs) H _ J0 hq) (fun fl s2 h2 => ?_) fun e s2 h2 => h2
  have done : ∀ {σ2 : L2.St} {H2 : Hp} {v : V} {u : Value}, Inv (cxOf CX0 P w K mg base N q (defScope st) f cdv A out s H E) [] σ2 H2 s2 → RelV v u → Q v H2 → CE out P w H s Q u s2 := fun {σ2 H2 v u} J rv z => ⟨v, H2, J.os, J.bare, J.base, J.hok, rv, z⟩
  cases fl with
  | next =>
    obtain ⟨σ2, H2, J, z⟩ := h2
    exact done (v := V.non) (u := Value.none) J rfl z
  | ret u =>
    obtain ⟨v, σ2, H2, J, rv, z⟩ := h2
    exact done J rv z
  | brk =>
    obtain ⟨_, _, _, z⟩ := h2
    exact z.elim
  | cont =>
    obtain ⟨_, _, _, z⟩ := h2
    exact z.elim
/-- such a def as an operator has it -/
theorem own_ofG {X : Cx} {C f : Addr} {name : Str} {n : Nat} {fd : FuncData} {ps : List Str} {sp : Sp} (hg : X.A.guards = some []) (F : FnG X.prog X.w X.K X.mg X.base n f fd ps sp) (hs : PySem.W.findIn X.K (.ref C) name = some (some (.ref f))) (hf : PySem.W.isFn X.K (.ref f) = true) (hb : Binds X.K fd ps []) :
    OwnDef X C name n sp := by
  refine ⟨f, hs, hf, fun A pins s σ H vs us Q rm hfr hgd I r h => ?_⟩
  have hu : us.length = ps.length := r.length.symm.trans (F.len _ _ _ _ h)
  have hbd : BindsTo s fd ⟨us, []⟩ (ps.zip us) := by
    have := hb s us I.kIn (by rw [List.append_nil]; exact hu)
    rw [List.append_nil] at this
    exact this
  refine wpAny_call (codeAny_mono (F.run A X.stack s H us vs Q (fun _ _ _ => False) (hgd.trans hg) rm (env0_at I hfr) hbd r h) fun res s1 hq => ?_)
  cases res with
  | error e => exact False.elim hq
  | ok fl =>
    cases fl with
    | ret u => exact I.after hq
    | next => exact False.elim hq
    | brk => exact False.elim hq
    | cont => exact False.elim hq
end
/-- the law's call: nothing is under way there -/
theorem lawG {P : Program} {w : World} {K : PySem.W.Frag} {mg mb : Str → Option Value} {k : Nat} {fa a : Addr} {fd : FuncData} {x : Str} {sp : Sp} {s0 : Shared} {vs : List Value} {ns : List Int}
    (kin : K.In s0.heap) (gns : s0.heap.Ns mainGlobals mg) (bns : s0.heap.Ns builtinsNs mb) (boot : ∀ x : Str, x ≠ "__name__" → mb x = bootBuiltins x) (nol : s0.heap.NoLimit) (hg : s0.gens = #[])
    (ha : s0.heap.get? a = some { cls := .type "list", data := .seq vs.toArray }) (hi : IntsAre vs ns) (hl : ns.length ≤ sizeLine) (hr : Room k callerA)
    (F : ∀ base : Heap, K.In base → base.Ns mainGlobals mg → FnG P w K mg base k fa fd [x] sp) (hbind : ∀ (s : Shared) (u : Value), BindsTo s fd ⟨[u], []⟩ [(x, u)])
    (hsp : ∀ H : Hp, SqL K H a (ns.map V.int) → sp [.ref a] H (fun v _ => v = .bl true) fun _ _ _ => False) :
    codeAny (model P w) callerA (.call (.ref fa) ⟨[.ref a], []⟩) (fun r s1 => r = .ok (.ret (.bool true)) ∧ OldK s0.heap s1.heap ∧ s1.os = s0.os ∧ AllBare s1.gens) s0 := by
  have main : ∀ H : Hp, (∀ b, H b = none ∨ ∃ o xs, H b = some (.frz o (.lst xs))) → SqL K H a (ns.map V.int) → HOk P w H s0.heap → (∀ b, H b ≠ none → b = a) → (H a ≠ none → K.lookup a = none) →
      codeAny (model P w) callerA (.call (.ref fa) ⟨[.ref a], []⟩) (fun r s1 => r = .ok (.ret (.bool true)) ∧ OldK s0.heap s1.heap ∧ s1.os = s0.os ∧ AllBare s1.gens) s0 := by
    intro H frz sq hok only ka
    have nodict : ∀ {b : Addr} {o : Obj} {es : Array DictEntry} {ep : Nat}, s0.heap.get? b = some o → o.data = .dict es ep → H b = none := by
      intro b o es ep z d
      cases q : H b with
      | none => rfl
      | some u =>
        obtain rfl : b = a := only b (by rw [q]; exact Option.some_ne_none u)
        rw [ha] at z
        cases z
        cases (show Data.seq vs.toArray _ = Data.dict es ep from d)
    have ns1 : ∀ {b : Addr} {m : Str → Option Value}, s0.heap.Ns b m → (hidT s0.heap H).Ns b m := fun {b m} ⟨o, es, ep, z, d, r⟩ => ⟨o, es, ep, hidT_get z (nodict z d), d, r⟩
    have kin1 : K.In (hidT s0.heap H) := by
      intro b o z
      refine hidT_get (kin b o z) ?_
      cases q : H b with
      | none => rfl
      | some u =>
        obtain rfl : b = a := only b (by rw [q]; exact Option.some_ne_none u)
        rw [ka (by rw [q]; exact Option.some_ne_none u)] at z
        cases z
    have md : Mod K mg (hidT s0.heap H) := by
      obtain ⟨mc, n1, n2⟩ := nol
      exact ⟨kin1, ns1 gns, ⟨mb, ns1 bns, boot⟩, ⟨mc, ns1 n1, n2⟩⟩
    have ev : Env0 P w K mg (hidT s0.heap H) callerA [] s0 H := ⟨rfl, md, fun b o z => of_hidT z, Nat.le_of_eq (hidT_size _ _), trivial, (fun b hb => nomatch (show b ∈ ([] : List Addr) from hb)), hok, .of_eq hg⟩
    refine codeAny_mono ((F _ kin1 (ns1 gns)).run callerA [] s0 H [.ref a] [.ref a] (fun v _ => v = .bl true) (fun _ _ _ => False) rfl hr ev (hbind s0 (.ref a)) (.cons rfl .nil) (hsp H sq)) fun r s1 h => ?_
    cases r with
    | error e => exact False.elim h
    | ok fl =>
      cases fl with
      | next => exact h.elim
      | brk => exact h.elim
      | cont => exact h.elim
      | ret u =>
        obtain ⟨v, H1, os, bare, un, hok1, r1, q1⟩ := h
        obtain rfl : v = V.bl true := q1
        obtain rfl : u = Value.bool true := r1
        refine ⟨rfl, OldK.of_keep fun b o z => ?_, os, bare⟩
        rcases frz b with n | ⟨ob, xs, n⟩
        · exact un.keep b o z n (fun y => nomatch (show b ∈ ([] : List Addr) from y)) (by simp)
        · obtain ⟨z1, _⟩ := hok b _ n
          obtain ⟨z2, _⟩ := hok1 b _ (un.frzs b ob _ n)
          rw [z] at z1
          cases z1
          exact z2
  have hlen := hi.length
  have hv := vals_ints hi
  cases hk : K.lookup a with
  | some o =>
    have z := kin a o hk
    rw [ha] at z
    cases z
    refine main (fun _ => none) (fun _ => .inl rfl) (.inr ⟨_, vs.toArray, _, hk, rfl, rfl, rfl, ?_, by simpa using hv⟩) (fun b u z => nomatch (show (none : Option HO) = some u from z)) (fun b z => (z rfl).elim) (fun z => (z rfl).elim)
    rw [List.size_toArray, hlen]
    exact hl
  | none =>
    refine main (fun b => if b = a then some (.frz { cls := .type "list", data := .seq vs.toArray } (.lst (ns.map V.int))) else none) (fun b => ?_) (.inl (.inr ⟨_, if_pos rfl⟩)) (fun b u z => ?_) (fun b z => ?_) (fun _ => hk)
    · rcases Classical.em (b = a) with e | e
      · exact .inr ⟨_, _, if_pos e⟩
      · exact .inl (if_neg e)
    · rcases Classical.em (b = a) with e | e
      · cases (if_pos e).symm.trans z
        subst e
        exact ⟨ha, by rw [List.length_map]; exact hl, vs, _, hv, ha⟩
      · cases (if_neg e).symm.trans z
    · rcases Classical.em (b = a) with e | e
      · exact e
      · exact (z (if_neg e)).elim
theorem walkG {l : PySem.W.OpenLaw} {n k : Nat} {q : Program} {loose : List Str} {XP : (Str → Option Value) → Heap → Prop} {YP : World → Heap → Prop} {d : DefRec} {K : Params → PySem.W.Frag} {sp : PySem.W.Frag → Sp} {x : Str}
    (hn : l.most = some n) (hn2 : n ≤ sizeLine) (hdf : d.params.defaults = []) (hr : Room k callerA) (hY : ∀ (w : World) (h : Heap), YP w h → (K w.params).In h)
    (F : ∀ (w : World) (mg : Str → Option Value) (fa : Addr) (h : Heap), (K w.params).In h → h.Ns mainGlobals mg → mg d.name = some (.ref fa) →
      ∃ fd : FuncData, (∀ (s : Shared) (u : Value), BindsTo s fd ⟨[u], []⟩ [(x, u)]) ∧ ∀ base : Heap, (K w.params).In base → base.Ns mainGlobals mg → FnG l.prog w (K w.params) mg base k fa fd [x] (sp (K w.params)))
    (hsp : ∀ (w : World) (H : Hp) (a : Addr) (ns : List Int), SqL (K w.params) H a (ns.map V.int) → sp (K w.params) [.ref a] H (fun v _ => v = .bl true) fun _ _ _ => False) :
    PySem.W.WalkO q loose XP YP l.row.toRowW d [] (fun f vs => PySem.call f vs) := by
  refine Att.attach_call hn hdf fun w s1 s0 mg mb fa o pm cd doc a vs ns G Y ho hd hcd hmg hobj hints hlen hg => ?_
  obtain ⟨fd, hb, hF⟩ := F w mg fa _ (hY w _ Y) G.T.g hmg
  exact lawG (hY w _ Y) G.T.g G.T.b G.T.builtins G.T.nolimit hg hobj hints (Nat.le_trans hlen hn2) hr hF hb fun H sq => hsp w H a ns sq
end Pw

set_option Elab.async false
set_option linter.all false
set_option maxRecDepth 100000
set_option maxHeartbeats 4000000
/-! zip of lists, tuples and texts, two or three of them in any mix -/
namespace Pw
open PySem PySem.Spec PySem.Calls PyProof.Rows L2 TL
theorem vals_back : ∀ {xs : List V} {us : List Value} {i : Nat} {u : Value}, Vals xs us → us[i]? = some u → ∃ x, xs[i]? = some x ∧ RelV x u
  | _, _, _, _, .nil, e => by simp at e
  | _, _, 0, _, .cons r _, e => by
    obtain rfl := Option.some.inj e
    exact ⟨_, rfl, r⟩
  | _, _, i + 1, u, .cons _ t, e => by
    obtain ⟨x, h1, h2⟩ := vals_back (i := i) (u := u) t (by simpa using e)
    exact ⟨x, by simpa using h1, h2⟩
/-- what a zip goes along -/
inductive Sr
  | lst (a : Addr)
  | tup (a : Addr)
  | str (x : Str)
def Sr.v : Sr → V
  | .lst a => .ref a
  | .tup a => .ref a
  | .str x => .str x
def chV (x : Str) : List V := (tl x).map fun c => V.str ⟨#[c]⟩
def Sr.its (K : PySem.W.Frag) (H : Hp) (sr : Sr) (xs : List V) : Prop := match sr with
  | .lst a => SqL K H a xs
  | .tup a => SqT K H a xs
  | .str x => xs = chV x
def Sr.here (h : Heap) (it : Addr) (i : Nat) : Sr → Prop
  | .lst a => h.IsListIter it a i
  | .tup a => h.IsTupleIter it a i
  | .str x => ∃ t, h.IsStrIter it (strIterType x) x t i
def Sr.far (it : Addr) (sr : Sr) : Prop := sr.v ≠ .ref it
theorem Sr.inj {X : Cx} {pins : List (Addr × Obj)} {σ : L2.St} {H : Hp} {s : Shared} (I : Inv X pins σ H s) {sr : Sr} {xs ys : List V} (h1 : sr.its X.K H xs) (h2 : sr.its X.K H ys) : xs = ys := by
  cases sr with
  | lst a => exact I.list_inj h1 h2
  | tup a => exact I.tuple_inj h1 h2
  | str x => exact Eq.trans h1 (Eq.symm h2)
theorem Sr.keep {h h' : Heap} {it : Addr} {i : Nat} {sr : Sr} (e : sr.here h it i) (k : ∀ o, h.get? it = some o → h'.get? it = some o) : sr.here h' it i := by
  cases sr with
  | lst a => exact Heap.IsListIter.at e k
  | tup a => exact Heap.IsTupleIter.at e k
  | str x =>
    obtain ⟨t, o, ho, r⟩ := e
    exact ⟨t, o, k o ho, r⟩
theorem Sr.live {h : Heap} {it : Addr} {i : Nat} {sr : Sr} (e : sr.here h it i) : ∃ o, h.get? it = some o ∧ ∀ v, o.data ≠ .cell v := by
  cases sr with
  | lst a =>
    obtain ⟨o, e, _, d⟩ := e
    exact ⟨o, e, fun v q => by rw [d] at q; cases q⟩
  | tup a =>
    obtain ⟨o, e, _, d⟩ := e
    exact ⟨o, e, fun v q => by rw [d] at q; cases q⟩
  | str x =>
    obtain ⟨t, o, e, _, d⟩ := e
    exact ⟨o, e, fun v q => by rw [d] at q; cases q⟩
theorem Sr.draws {X : Cx} {pins : List (Addr × Obj)} {σ : L2.St} {H : Hp} {s : Shared} (I : Inv X pins σ H s) (hc : X.calm = true) {sr : Sr} {xs : List V} {it : Addr} {i : Nat} (h : sr.its X.K H xs) (f : sr.far it) (st : sr.here s.heap it i) :
    ∃ (fp : List Addr) (P : Nat → Value → Prop) (St : Nat → Heap → Prop), Draws X.prog X.w X.A.in1 it fp xs.length P St ∧ St i s.heap ∧ (∀ j h', St j h' → sr.here h' it j) ∧ (∀ j v, P j v → ∃ x, xs[j]? = some x ∧ RelV x v) ∧ it ∈ fp ∧ ∀ c ∈ fp, c = it ∨ sr.v = .ref c := by
  have hh : X.A.in1.handled = none := I.ok.hd hc
  cases sr with
  | lst a =>
    obtain ⟨its, rv, p, _⟩ := I.list h
    have e : xs.length = its.toArray.size := by rw [rv.length]; simp
    rw [e]
    refine ⟨_, _, _, Draws.list hh it a (fun z => f (by rw [z]; rfl)) its.toArray, ⟨st, p.isList⟩, fun j h' q => q.1, fun j v q => ?_, by simp, fun c hcm => ?_⟩
    · exact vals_back rv (by simpa using q)
    · have : c = it ∨ c = a := by simpa using hcm
      rcases this with z | z
      · exact .inl z
      · exact .inr (by rw [z]; rfl)
  | tup a =>
    obtain ⟨its, rv, p, _⟩ := I.tuple h
    have e : xs.length = its.toArray.size := by rw [rv.length]; simp
    rw [e]
    refine ⟨_, _, _, Draws.tuple hh it a (fun z => f (by rw [z]; rfl)) its.toArray, ⟨st, p⟩, fun j h' q => q.1, fun j v q => ?_, by simp, fun c hcm => ?_⟩
    · exact vals_back rv (by simpa using q)
    · have : c = it ∨ c = a := by simpa using hcm
      rcases this with z | z
      · exact .inl z
      · exact .inr (by rw [z]; rfl)
  | str x =>
    have h' : xs = chV x := h
    subst h'
    obtain ⟨t, st⟩ := st
    have e : (chV x).length = x.cps.size := by unfold chV; rw [List.length_map]; simp
    rw [e]
    refine ⟨_, _, _, Draws.text hh it x t, st, fun j h' q => ⟨t, q⟩, fun j v q => ?_, by simp, fun c hcm => .inl (by simpa using hcm)⟩
    obtain ⟨c, u, hcx, rfl⟩ := q
    refine ⟨.str ⟨#[c]⟩, ?_, ⟨u, rfl⟩⟩
    unfold chV
    rw [List.getElem?_map, show (tl x)[j]? = some c by rw [← hcx]; exact Array.getElem?_toList]
    rfl
theorem Sr.begins {X : Cx} {pins : List (Addr × Obj)} {σ : L2.St} {H : Hp} {s : Shared} (I : Inv X pins σ H s) {sr : Sr} {xs : List V} {u : Value} (h : sr.its X.K H xs) (r : RelV sr.v u) :
    ∃ (o : Obj) (Hh : Heap → Prop), Begins u o Hh ∧ Hh s.heap ∧ (∀ h' it, h'.get? it = some o → sr.here h' it 0) ∧ ∀ it, s.heap.objs.size ≤ it → sr.far it := by
  cases sr with
  | lst a =>
    obtain ⟨its, rv, p, _⟩ := I.list h
    cases r
    refine ⟨_, _, begins_list a its.toArray, p.isList, fun h' it e => ⟨_, e, rfl, rfl⟩, fun it hle z => ?_⟩
    have lt := p.lt
    have e : a = it := V.ref.inj z
    rw [e] at lt
    exact absurd lt (Nat.not_lt.mpr hle)
  | tup a =>
    obtain ⟨its, rv, p, _⟩ := I.tuple h
    cases r
    obtain ⟨o1, ho1, _⟩ := id p
    refine ⟨_, _, begins_tuple a its.toArray, p, fun h' it e => ⟨_, e, rfl, rfl⟩, fun it hle z => ?_⟩
    have lt := Heap.lt_size ho1
    have e : a = it := V.ref.inj z
    rw [e] at lt
    exact absurd lt (Nat.not_lt.mpr hle)
  | str x =>
    obtain ⟨t, rfl⟩ := r
    exact ⟨_, _, begins_text x t, trivial, fun h' it e => ⟨t, _, e, rfl, rfl⟩, fun it hle z => nomatch z⟩
/-! ### two -/
structure Apart2 (z TI TO i1 i2 : Addr) (s1 s2 : Sr) : Prop where
  TIz : TI ≠ z
  TOz : TO ≠ z
  TITO : TI ≠ TO
  TIi1 : TI ≠ i1
  TIi2 : TI ≠ i2
  zi1 : z ≠ i1
  zi2 : z ≠ i2
  Ti1 : TO ≠ i1
  Ti2 : TO ≠ i2
  i12 : i1 ≠ i2
  f1 : s1.far z ∧ s1.far TO ∧ s1.far i1 ∧ s1.far i2
  f2 : s2.far z ∧ s2.far TO ∧ s2.far i1 ∧ s2.far i2
def ItzD (K : PySem.W.Frag) (s1 s2 : Sr) : It :=
  ⟨fun i H => ∃ (xs ys : List V) (x y : V), s1.its K H xs ∧ s2.its K H ys ∧ xs[i]? = some x ∧ ys[i]? = some y,
    fun i H v H' => ∃ T x y, v = .ref T ∧ H T = none ∧ H' = upd H T (.tup [x, y]) ∧ (∀ xs, s1.its K H xs → xs[i]? = some x) ∧ ∀ ys, s2.its K H ys → ys[i]? = some y,
    fun i H => ∃ xs ys : List V, s1.its K H xs ∧ s2.its K H ys ∧ i ≤ xs.length ∧ i ≤ ys.length ∧ (i = xs.length ∨ i = ys.length)⟩
theorem Apart2.sep {z TI TO i1 i2 : Addr} {s1 s2 : Sr} (D : Apart2 z TI TO i1 i2 s1 s2) {fp1 fp2 : List Addr} (m1 : i1 ∈ fp1) (c1 : ∀ c ∈ fp1, c = i1 ∨ s1.v = .ref c) (m2 : i2 ∈ fp2) (c2 : ∀ c ∈ fp2, c = i2 ∨ s2.v = .ref c) : ZipSep2 z TI TO i1 i2 fp1 fp2 where
  TIz := D.TIz
  TOz := D.TOz
  TITO := D.TITO
  TIi1 := D.TIi1
  mem1 := m1
  zf1 := fun h => (c1 _ h).elim D.zi1 D.f1.1
  Tf1 := fun h => (c1 _ h).elim D.Ti1 D.f1.2.1
  TIi2 := D.TIi2
  mem2 := m2
  zf2 := fun h => (c2 _ h).elim D.zi2 D.f2.1
  Tf2 := fun h => (c2 _ h).elim D.Ti2 D.f2.2.1
  sep1_2 := fun h => (c2 _ h).elim D.i12 D.f2.2.2.1
  sep2_1 := fun h => (c1 _ h).elim D.i12.symm D.f1.2.2.2
theorem turn_zipD {P : Program} {w : World} {K : PySem.W.Frag} {elts : List Expr} {kk : Nat} {tpos : Pos} {z TI TO i1 i2 : Addr} {s1 s2 : Sr} (D : Apart2 z TI TO i1 i2 s1 s2) :
    Turn P w K (.Tuple elts kk tpos) (ItzD K s1 s2) [z, TI, TO, i1, i2] z (fun i h => IsZip h z TI TO .none ∧ IsTupOf2 h TI (.ref i1) (.ref i2) ∧ (∃ x y, IsTupOf2 h TO x y) ∧ s1.here h i1 i ∧ s2.here h i2 i) where
  mem := by simp
  obj := fun i h st c hc => by
    obtain ⟨hz, hTI, ⟨x, y, hTO⟩, h1, h2⟩ := st
    have e' : c = z ∨ c = TI ∨ c = TO ∨ c = i1 ∨ c = i2 := by simpa using hc
    rcases e' with q | q | q | q | q
    · exact q ▸ ⟨_, hz, fun v q => nomatch q⟩
    · exact q ▸ ⟨_, hTI, fun v q => nomatch q⟩
    · exact q ▸ ⟨_, hTO, fun v q => nomatch q⟩
    · exact q ▸ Sr.live h1
    · exact q ▸ Sr.live h2
  keep := fun i h h' st k => by
    obtain ⟨hz, hTI, ⟨x, y, hTO⟩, h1, h2⟩ := st
    exact ⟨k z (by simp) _ hz, k TI (by simp) _ hTI, ⟨x, y, k TO (by simp) _ hTO⟩, Sr.keep h1 fun o q => k i1 (by simp) o q, Sr.keep h2 fun o q => k i2 (by simp) o q⟩
  item := by
    intro X hP hw hK hc i pins s σ H E I hf st hg
    subst hP hw hK
    obtain ⟨hz, hTI, ⟨x0, y0, hTO⟩, h1, h2⟩ := st
    obtain ⟨xs, ys, x, y, hqx, hqy, hx, hy⟩ := hg
    obtain ⟨fp1, P1, St1, D1, st1, b1, v1, m1, c1⟩ := Sr.draws I hc hqx D.f1.2.2.1 h1
    obtain ⟨fp2, P2, St2, D2, st2, b2, v2, m2, c2⟩ := Sr.draws I hc hqy D.f2.2.2.2 h2
    have hzl : z < s.heap.objs.size := Heap.lt_size hz
    refine wpAny_pyNext_zipD2_item (D.sep m1 c1 m2 c2) D1 D2 hz hTI hTO st1 st2 (List.getElem?_eq_some_iff.mp hx).1 (List.getElem?_eq_some_iff.mp hy).1 fun u1 u2 h' tk y1 y2 z' TO' st1' st2' hT hsz hk => ?_
    obtain ⟨x', ex, rx⟩ := v1 _ _ y1
    obtain ⟨y', ey, ry⟩ := v2 _ _ y2
    obtain rfl : x = x' := Option.some.inj (hx.symm.trans ex)
    obtain rfl : y = y' := Option.some.inj (hy.symm.trans ey)
    refine ⟨_, rfl, wpAny_letOwnedTupleGo_zip (s := { s with heap := h', toks := tk }) z' fun h'' z'' sb => ?_⟩
    have hT2 : h''.get? s.heap.objs.size = some { cls := .type "tuple", data := .seq #[u1, u2] } := (sb.2 _ (Nat.ne_of_gt hzl)).trans hT
    have new : ObjOk X.prog X.w (upd H s.heap.objs.size (.tup [x, y])) h'' s.heap.objs.size (.tup [x, y]) :=
      ⟨by show 2 ≤ sizeLine; decide, [u1, u2], .cons rx (.cons ry .nil), ⟨_, hT2, rfl, _, rfl⟩⟩
    have I1 : Inv X pins σ (upd H s.heap.objs.size (.tup [x, y])) { s with heap := h'', toks := tk } :=
      I.turnedNew (t' := tk) (ch := [z, TI, TO, i1, i2]) (fun c o hb q => (sb.2 c (fun q' => hb (by simp [q']))).trans (hk c o (fun q' => hb (by simp [q'])) (fun q' => hb (by simp [q'])) (fun q' => hb (by simp [q'])) (fun q' => hb (by simp [q'])) q)) hf (Nat.le_refl _) new
    refine ⟨.ref s.heap.objs.size, _, I1, rfl, ⟨_, x, y, rfl, I.hok.fresh (Nat.le_refl _), rfl, fun l hl => by rw [Sr.inj I hl hqx]; exact hx, fun l hl => by rw [Sr.inj I hl hqy]; exact hy⟩, ⟨z'', ?_, ⟨u1, u2, ?_⟩, ?_, ?_⟩, fun c hcm => ?_⟩
    · exact (sb.2 _ D.TIz).trans (hk _ _ D.TIz D.TITO D.TIi1 D.TIi2 hTI)
    · exact (sb.2 _ D.TOz).trans TO'
    · exact Sr.keep (b1 _ _ st1') fun o q => (sb.2 _ D.zi1.symm).trans q
    · exact Sr.keep (b2 _ _ st2') fun o q => (sb.2 _ D.zi2.symm).trans q
    · have hlt : c < s.heap.objs.size := by
        have e' : c = z ∨ c = TI ∨ c = TO ∨ c = i1 ∨ c = i2 := by simpa using hcm
        rcases e' with q | q | q | q | q
        · exact q ▸ hzl
        · exact q ▸ Heap.lt_size hTI
        · exact q ▸ Heap.lt_size hTO
        · obtain ⟨_, e1, _⟩ := Sr.live h1
          exact q ▸ Heap.lt_size e1
        · obtain ⟨_, e2, _⟩ := Sr.live h2
          exact q ▸ Heap.lt_size e2
      rw [upd_ne (Nat.ne_of_lt hlt)]
      exact (hf c hcm).1
  done := by
    intro X hP hw hK hc i pins s σ H E I hf st hg
    subst hP hw hK
    obtain ⟨hz, hTI, ⟨x0, y0, hTO⟩, h1, h2⟩ := st
    obtain ⟨xs, ys, hqx, hqy, le1, le2, hend⟩ := hg
    obtain ⟨fp1, P1, St1, D1, st1, b1, v1, m1, c1⟩ := Sr.draws I hc hqx D.f1.2.2.1 h1
    obtain ⟨fp2, P2, St2, D2, st2, b2, v2, m2, c2⟩ := Sr.draws I hc hqy D.f2.2.2.2 h2
    exact wpAny_pyNext_zipD2_end (D.sep m1 c1 m2 c2) D1 D2 hz hTI hTO st1 st2 le1 le2 hend fun h' tk hk => ⟨rfl, I.turnedL (t' := tk) (ch := [z, TI, TO, i1, i2]) (fun c o hb q =>
      hk c o (fun q' => hb (by simp [q'])) (fun q' => hb (by simp [q'])) (fun q' => hb (by simp [q'])) (fun q' => hb (by simp [q'])) q) hf⟩
  self := fun A i s Q E st h => wpAny_pyIter_zip st.1 h
def iZipD (K : PySem.W.Frag) (ta : TA) : TI := fun σ H R => ta σ H fun vs H1 => ∃ (s1 s2 : Sr) (xs ys : List V), vs = [s1.v, s2.v] ∧ s1.its K H1 xs ∧ s2.its K H1 ys ∧ R (ItzD K s1 s2) H1
theorem pi_zipD {X : Cx} {e e2 : Expr} {ta : TA} {p pos tpos : Pos} {elts : List Expr} {kk : Nat} (hg : Gl X "zip") (hm : X.mg "zip" = none) (ha : PA X [e, e2] ta)
    (hs : starEach [e, e2] X.env = (false, eval e X.env) :: starEach [e2] X.env := by rfl) (hpl : (backTo pos (starEach [e2] X.env)).any (·.1) = false := by rfl) :
    PI X (.Tuple elts kk tpos) (.Call (.Name "zip" p) [e, e2] [] pos) (iZipD X.K ta) := by
  refine ⟨fun pins s σ H R I h => ?_⟩
  refine Call_ (ld_blt I hg hm PyProof.Rows.boot_zip (PyProof.Rows.callWith_type1 (thn (ha.run pos pins s σ H _ I h) fun us s1 ⟨vs, H1, I1, r1, q1⟩ => ?_) hs hpl))
  obtain ⟨sa, sb, xs, ys, ex, hqx, hqy, q⟩ := q1
  subst ex
  cases r1 with
  | cons r rr =>
    cases rr with
    | cons r' rr =>
      cases rr
      obtain ⟨o1, Hh1, B1, hB1, w1, fa⟩ := Sr.begins I1 hqx r
      obtain ⟨o2, Hh2, B2, hB2, w2, fb⟩ := Sr.begins I1 hqy r'
      have fresh5 : ∀ c, c ∈ [s1.heap.objs.size + 4, s1.heap.objs.size + 2, s1.heap.objs.size + 3, s1.heap.objs.size, s1.heap.objs.size + 1] → FpOk X pins H1 c := fun c hcm => by
        have e' : c = s1.heap.objs.size + 4 ∨ c = s1.heap.objs.size + 2 ∨ c = s1.heap.objs.size + 3 ∨ c = s1.heap.objs.size ∨ c = s1.heap.objs.size + 1 := by simpa using hcm
        have hle : s1.heap.objs.size ≤ c := by
          rcases e' with z | z | z | z | z
          · rw [z]; exact Nat.le_add_right _ _
          · rw [z]; exact Nat.le_add_right _ _
          · rw [z]; exact Nat.le_add_right _ _
          · rw [z]; exact Nat.le_refl _
          · rw [z]; exact Nat.le_add_right _ _
        exact I1.fpOk hle (I1.hok.fresh hle)
      refine zip_begins2 B1 B2 hB1 hB2 fun h' hz hTI hTO h1 h2 hsz hk => wpAny_pyIter_zip hz ?_
      have I2 : Inv X pins σ H1 { s1 with heap := h' } := I1.kept (t' := s1.toks) hk
      have N : ∀ (m k : Nat), m ≠ k → s1.heap.objs.size + m ≠ s1.heap.objs.size + k := fun m k h e => h (Nat.add_left_cancel e)
      have F1 : ∀ m : Nat, sa.far (s1.heap.objs.size + m) := fun m => fa _ (Nat.le_add_right _ _)
      have F2 : ∀ m : Nat, sb.far (s1.heap.objs.size + m) := fun m => fb _ (Nat.le_add_right _ _)
      exact ⟨s1.heap.objs.size + 4, [s1.heap.objs.size + 4, s1.heap.objs.size + 2, s1.heap.objs.size + 3, s1.heap.objs.size, s1.heap.objs.size + 1], _, _, H1, rfl, I2,
        turn_zipD ⟨N 2 4 (by decide), N 3 4 (by decide), N 2 3 (by decide), N 2 0 (by decide), N 2 1 (by decide), N 4 0 (by decide), N 4 1 (by decide), N 3 0 (by decide), N 3 1 (by decide), N 0 1 (by decide), ⟨F1 4, F1 3, F1 0, F1 1⟩, ⟨F2 4, F2 3, F2 0, F2 1⟩⟩,
        ⟨hz, hTI, ⟨_, _, hTO⟩, w1 _ _ h1, w2 _ _ h2⟩, fresh5, q⟩
theorem walk_zipD {K : PySem.W.Frag} {s1 s2 : Sr} {xs ys : List V} {n : Nat} (hn : n = min xs.length ys.length) : Walk (ItzD K s1 s2) n (fun H => s1.its K H xs ∧ s2.its K H ys) (YPair (fun i => xs[i]?) (fun i => ys[i]?)) := by
  subst hn
  refine ⟨fun i _ hi q => ?_, fun _ q => ⟨xs, ys, q.1, q.2, by omega⟩, fun i H v H' _ q y => ?_⟩
  · have h1 : i < xs.length := by omega
    have h2 : i < ys.length := by omega
    exact ⟨xs, ys, xs[i], ys[i], q.1, q.2, by simp [h1], by simp [h2]⟩
  · obtain ⟨T, x, z, h1, h2, h3, h4, h5⟩ := y
    exact ⟨T, x, z, h1, h2, h3, h4 xs q.1, h5 ys q.2⟩
end Pw

set_option Elab.async false
set_option linter.all false
set_option maxRecDepth 100000
set_option maxHeartbeats 1000000
/-! an exception that leaves a list comprehension -/
namespace PwE
open PySem PySem.Spec L2

theorem note_alike {e : Value} {a b : Env} (h : a.frame = b.frame) : PySem.noteFrame e a = PySem.noteFrame e b := by
  unfold PySem.noteFrame PySem.frameOf
  rw [h]
/-- how a comprehension's run is to end -/
def EndE (M : Model) (A : Around) (E : Value → Shared → Prop) (acc : Value) (Qf : Value → Shared → Prop) (ce : Env) (r : Result) (t : Shared) : Prop :=
  match r with
  | .ok _ => ∃ m, t.heap.Ns ce.locals m ∧ ∀ g, Heap.SameBut ce.locals t.heap g → Qf acc { t with heap := g }
  | .error x => ∃ m, t.heap.Ns ce.locals m ∧ ∀ g, Heap.SameBut ce.locals t.heap g → wpAny M A (PySem.passOn "comprehension.variables-let-go" x ce : Sem Value) (fun _ _ => False) E { t with heap := g }

theorem comp_runs {M : Model} {A : Around} {E : Value → Shared → Prop} {s : Shared} {env : Env} {e : Expr} {scope : Scope} {pos : Pos} {new0 first : Sem Value} {g : Comprehension} {gs : List Comprehension} {cl : List (Str × Addr)} {Q : Value → Shared → Prop}
    (hcl : clausesOf e = g :: gs) (hs : ∀ x, foldedSetIterable g.iter env x = pure x) (hclos : closureFor scope env = pure cl) (hk : scope.kind = .function)
    (hn : ∀ x ∈ scope.names, x.2 = .local → scope.names.lookup x.1 = some .local)
    (h : wpAny M A first (fun x t1 => wpAny M A (pyIter x) (fun it t2 => wpAny M A new0 (fun acc t3 => wpAny M A (newFunctionEnv scope env.globals cl [] env.qual none .none (some env)) (fun ce t4 =>
      codeAny M A (.compStart e 0 it acc { ce with scope := relabel scope env }) (EndE M A E acc Q { ce with scope := relabel scope env }) t4) E t3) E t2) E t1) E s) :
    wpAny M A (comprehension e scope env pos new0 false first none) Q E s := by
  unfold comprehension
  rw [hclos, hcl]
  refine wpAny_bind (wpAny_mono h (fun x t1 h1 => wpAny_bind (wpAny_standAt (wpAny_bind (wpAny_of_eq (hs x) (wpAny_bind (wpAny_holding (wpAny_mono h1 (fun it t2 h2 =>
    wpAny_standIf (wpAny_bind (wpAny_mono h2 (fun acc t3 h3 => wpAny_bind (wpAny_pure (wpAny_bind (wpAny_mono h3 (fun ce t4 h4 => ?_) fun _ _ z => z)))) fun _ _ z => z)))
      fun _ _ z => z))))))) fun _ _ z => z)
  dsimp only
  have hv : ∀ x ∈ (scope.names.filter fun x => (x.2 == .local || x.2 == .cell) && x.1 != (".0" : Str)).reverse, x.2 = .local →
      Env.kindOf { ce with scope := relabel scope env } x.1 = some .local := fun x hx hl => lookup_relabel_local (hn x (List.mem_filter.mp (List.mem_reverse.mp hx)).1 hl)
  refine wpAny_holding (wpAny_bind (wpAny_attempt (wpAny_holding (wpAny_run (codeAny_mono h4 fun r t hr => ?_)))))
  cases r with
  | ok f =>
    obtain ⟨m, hm, hr⟩ := hr
    exact wpAny_bind (wpAny_holding (wpAny_comp_letGo (cenv := { ce with scope := relabel scope env }) hk _ t m hv hm fun h' m' _ hs' => wpAny_pure (hr h' hs')))
  | error x =>
    obtain ⟨m, hm, hr⟩ := hr
    exact wpAny_bind (wpAny_holding (wpAny_comp_letGo (cenv := { ce with scope := relabel scope env }) hk _ t m hv hm fun h' m' _ hs' => wpAny_mono (hr h' hs') (fun _ _ f => f.elim) fun _ _ y => y))

theorem ff_but {h h2 B B2 : Heap} {C : Addr} (k : ∀ b, b ≠ C → h2.get? b = h.get? b) (n : ∀ b, B.get? b = none → b ≠ C ∧ B2.get? b = none) : ∀ {l : List Env}, h.FunFrames B l → h2.FunFrames B2 l
  | [], _ => trivial
  | _ :: _, ⟨hk, ⟨L, o, hf, hn, ho, hd⟩, hr⟩ => ⟨hk, ⟨L, o, hf, (n L hn).2, (k L (n L hn).1).trans ho, hd⟩, ff_but k n hr⟩

section
variable {X : Cx} {pins : List (Addr × Obj)} {σ : L2.St} {H3 : Hp} {s3 : Shared} {W : WX} {E : XK} {scope : Scope} {ce : Env} {fp : List Addr} {acc : Value} {Qf : Value → Shared → Prop}
/-- what a block's call lets out, noted, the block's names let go, passed on: the def takes it -/
theorem passes_blk (tk : Takes X W) (hW : ∀ cls d H, E cls d H → W cls d σ H) (hst : X.stack = X.env :: X.outer) (hf : X.env.frame = some X.env.locals) (I3 : Inv X pins σ H3 s3)
    (f3 : ∀ b ∈ fp, FpOk X pins H3 b ∧ b < s3.heap.objs.size) (hce : ce.frame = X.env.frame) (hL : ce.locals = s3.heap.objs.size) :
    Passes (L2.CX X.prog X.w) ((X.blk s3 H3 scope ce fp).wish fun e t => notedBy (model X.prog X.w) X.A ce (fun e' t' => EndE (model X.prog X.w) X.A X.xe acc Qf ce (.error e') t') e t) E := by
  intro pins' σ' H5 s5 e s' I5 c
  obtain ⟨a, B, H', cls, d, rfl, fl, hok, ub, na, os, ag, hE⟩ := c
  show wpAny _ X.A (PySem.noteFrame (.ref a) ce) _ _ s'
  rw [note_alike hce]
  have hfr : X.A.frames = some (X.env :: X.outer) := by rw [I3.ok.frames, hst]
  have fl2 : HandSPX.FlyingZ B (X.env :: X.outer) a (Zc cls d) s'.heap := by rw [← hst]; exact fl
  refine HandSPX.looks_onZ Zc.steady hfr hf fl2 fun h1 hh up1 => ?_
  generalize hC : ce.locals = C at *
  have hCn : H5 C = none := by have z := I5.free; rw [← hC]; exact z
  have nfr : ∀ b ∈ frs X.stack, b ≠ C := fun b hb z => by
    obtain ⟨_, o, ho, _⟩ := I3.stack.mem hb
    have := Heap.lt_size ho
    rw [z, hL] at this
    exact absurd this (Nat.lt_irrefl _)
  obtain ⟨m, hn, _⟩ := I5.loc
  have hn : s5.heap.Ns C m := by rw [← hC]; exact hn
  obtain ⟨oC, es, ep, ho, hd0, rr⟩ := hn
  have hBC : B.get? C = some oC := ub.keep C oC ho hCn fun z => nfr C z rfl
  have hCn' : H' C = none := ub.free C oC ho hCn
  refine ⟨m, ?_, fun h2 sb => ?_⟩
  · rw [hC]
    exact ⟨oC, es, ep, hh.1 _ _ hBC, hd0, rr⟩
  rw [hC] at sb
  -- the ground without the block's names
  generalize hB2 : PySem.W.hideAll B [C] = B2
  have b2s : ∀ b o, B2.get? b = some o → B.get? b = some o ∧ b ≠ C := fun b o q => by
    rw [← hB2] at q
    refine ⟨PySem.W.of_hideAll _ q, fun z => ?_⟩
    rw [z, PySem.W.hideAll_none [C] (by simp)] at q
    cases q
  have b2k : ∀ b o, B.get? b = some o → b ≠ C → B2.get? b = some o := fun b o q z => by
    rw [← hB2]
    exact PySem.W.hideAll_get _ q (by simpa using z)
  have b2n : ∀ b, B.get? b = none → b ≠ C ∧ B2.get? b = none := fun b q => by
    refine ⟨(fun z => by rw [z, hBC] at q; cases q), ?_⟩
    cases q2 : B2.get? b with
    | none => rfl
    | some o =>
      rw [(b2s b o q2).1] at q
      cases q
  obtain ⟨x1, x2, x3, oe, vs, T, oT, ts, he, hz, hd, v1, hnT, hTe, hT, hdT, v3⟩ := hh
  have he2 : h2.get? a = some oe := (sb.2 a (b2n a x2).1).trans he
  have hT2 : h2.get? T = some oT := (sb.2 T (b2n T hnT).1).trans hT
  have hh2 : HandSPX.HeldZ B2 (X.env :: X.outer) a (Zc cls d) X.env.locals h2 :=
    ⟨fun b o q => (sb.2 b (b2s b o q).2).trans (x1 b o (b2s b o q).1), (b2n a x2).2, ff_but sb.2 b2n x3, oe, vs, T, oT, ts, he2, hz, hd, v1, (b2n T hnT).2, hTe, hT2, hdT, v3⟩
  unfold PySem.passOn
  refine wpAny_bind (wpAny_field he2 hd v1 ?_)
  rw [if_neg (show ¬ ((Value.ref T == Value.none) = true) from by simp)]
  refine wpAny_bind ?_
  rw [hce, hf]
  have go : ∀ h4, HandSPX.HeldZ B2 (X.env :: X.outer) a (Zc cls d) X.env.locals h4 → h2.UpToSlots h4 → X.xe (.ref a) { s' with heap := h4 } := fun h4 hh4 up4 => by
    obtain ⟨G, g1, g2⟩ := restrict s'.heap fun b => (B2.get? b).isSome || decide (b ∈ frs X.stack)
    have st : B.StaysIn s'.heap := fl.1
    have gB : ∀ b o, B.get? b = some o → b ≠ C → G.get? b = some o := fun b o q z => by
      rw [g1 b (by simp [b2k b o q z])]
      exact st b o q
    have gF : ∀ b, b ∈ frs X.stack → G.get? b = s'.heap.get? b := fun b hb => g1 b (by simp [hb])
    have og : ∀ b o, G.get? b = some o → s'.heap.get? b = some o ∧ b ≠ C ∧ (b ∉ frs X.stack → B2.get? b = some o) := fun b o q => by
      cases q0 : ((B2.get? b).isSome || decide (b ∈ frs X.stack)) with
      | false => rw [g2 b q0] at q; cases q
      | true =>
        rw [g1 b q0] at q
        rcases (by simpa [Bool.or_eq_true] using q0 : (B2.get? b).isSome = true ∨ b ∈ frs X.stack) with z | z
        · obtain ⟨o', q'⟩ := Option.isSome_iff_exists.mp z
          have y := st b o' (b2s b o' q').1
          rw [q] at y
          cases y
          exact ⟨q, (b2s b o q').2, fun _ => q'⟩
        · exact ⟨q, nfr b z, fun y => absurd z y⟩
    have big : ∀ b o, s3.heap.get? b = some o → b ≠ C := fun b o q z => by
      have := Heap.lt_size q
      rw [z, hL] at this
      exact absurd this (Nat.lt_irrefl _)
    have J : Inv X pins σ H' { s3 with heap := G, gens := s'.gens, drawn := s'.drawn, toks := s'.toks } := by
      refine I3.call (ch := fp) ⟨fun b o q n hb hx => ?_, fun b o q n hb hx => ?_, fun b o q n hx => ?_, fun b o q hx => ?_, fun b xs q => ub.tups b xs (I5.base.tups b xs q), fun b o xs q => ub.frzs b o xs (I5.base.frzs b o xs q), fun b ps q => ?_⟩
        (fun b u q => (hok b u q).stay (fun c v hc y => gB c v y ?_) (fun _ y => y) fun _ _ y => y) ag fun b hb => ⟨(f3 b hb).1.2.2.2.1, (f3 b hb).1.2.1, (f3 b hb).1.2.2.2.2.1, (f3 b hb).1.2.2.2.2.2⟩
      · exact gB b o (ub.keep b o (I5.base.keep b o q n hb hx) (I5.base.free b o q n hx) hb) (big b o q)
      · obtain ⟨sl, q5⟩ := I5.base.slot b o q n hb hx
        obtain ⟨sl2, q6⟩ := ub.slot b _ q5 hb
        exact ⟨sl2, (gF b hb).trans q6⟩
      · obtain ⟨o', q5⟩ := I5.base.there b o q hx
        exact ub.free b o' q5 (I5.base.free b o q n hx)
      · by_cases hb : b ∈ frs X.stack
        · obtain ⟨sl, q5⟩ := I5.base.slot b o q (I3.stkFree b hb) hb hx
          obtain ⟨sl2, q6⟩ := ub.slot b _ q5 hb
          exact ⟨_, (gF b hb).trans q6⟩
        · obtain ⟨o', q5⟩ := I5.base.there b o q hx
          obtain ⟨o2, q6⟩ := ub.there b o' q5 hb
          exact ⟨o2, gB b o2 q6 (big b o q)⟩
      · obtain ⟨m1, e1⟩ := I5.base.tbls b ps q
        obtain ⟨m2, e2⟩ := ub.tbls b _ e1
        exact ⟨m1 ++ m2, by rw [e2, Array.append_assoc]⟩
      · rcases hc with z | z
        · rintro rfl
          rw [z, q] at hCn'
          cases hCn'
        · rintro rfl
          rw [hCn'] at z
          cases z
    refine tk _ _ ⟨a, B2, _, pins, σ, H', cls, d, rfl, J, fun b o q hb => (og b o q).2.2 hb, fun b o q hn => ?_, .inr (.inr ?_), na, ?_, ag, hW _ _ _ hE⟩
    · obtain ⟨q1, q2, _⟩ := og b o q
      obtain ⟨sl, q3⟩ := up1 b o q1 hn
      exact up4 b _ ((sb.2 b q2).trans q3) hn |>.imp fun _ z => z
    · rw [hst]
      exact hh4
    · exact os.trans I5.os
  exact HandSPX.setFlight_onZ (s := { s' with heap := h2 }) hh2 fun h4 hh4 up4 => wpAny_throw (go h4 hh4 up4)

/-- a list comprehension whose element may let an exception out -/
theorem pe_lcE {elt tg iter : Expr} {ifs : List Expr} {own : List (Str × Nat)} {pos : Pos} {wi : TI} {g : TG} {tt : TT} {te : TE} (hcl : X.calm = true) (hN : X.N.Nodup) (tk : Takes X fun cls d _ H => E cls d H) (hst : X.stack = X.env :: X.outer) (hf : X.env.frame = some X.env.locals)
    (hi : PI X tg iter wi) (ok : BlkOk X.N X.env.scope scope own)
    (hg : ∀ (s : Shared) (H : Hp) (C : Addr) (cl : List (Str × Addr)) (fp : List Addr) (xe : Value → Shared → Prop), PG ((X.blk s H scope (compEnvC scope cl C X.env) fp).wish xe) tg g)
    (ht : ∀ (s : Shared) (H : Hp) (C : Addr) (cl : List (Str × Addr)) (fp : List Addr) (xe : Value → Shared → Prop), PTs ((X.blk s H scope (compEnvC scope cl C X.env) fp).wish xe) ifs tt)
    (he : ∀ (s : Shared) (H : Hp) (C : Addr) (cl : List (Str × Addr)) (fp : List Addr) (xe : Value → Shared → Prop), Passes (L2.CX X.prog X.w) ((X.blk s H scope (compEnvC scope cl C X.env) fp).wish xe) E → PE ((X.blk s H scope (compEnvC scope cl C X.env) fp).wish xe) elt te)
    (hs : ∀ x, foldedSetIterable iter X.env x = pure x := by intro _; rfl) : PE X (.ListComp elt [⟨tg, iter, ifs, 0⟩] scope pos) (tLc wi g tt te (own.map (·.2))) := by
  refine ⟨fun pins s σ H Q I h => ?_⟩
  rw [eval_ListComp]
  have hfree : ∀ y ∈ scope.names, y.2 = .free → ∃ c, X.env.cells.lookup y.1 = some c := fun y hy e => (ok.free y hy e).elim (fun k => I.ok.has _ (.inl k)) fun k => I.ok.has _ (.inr k)
  refine comp_runs rfl hs (closure_ok hfree) ok.kind (fun y hy e => by rw [ok.uniq y hy, e])
    (thn (hi.run pins s σ H _ I h) fun xv s1 hx => thn hx fun itv s2 h2 => ?_)
  obtain ⟨it, fp, tn, J, H2, rfl, I2, T, st2, f2, q⟩ := h2
  refine wpAny_newObj_type (newEnv_comp ?_) (by show 0 ≤ sizeLine; decide)
  generalize hD : s2.heap.objs.size = D
  have hDn : H2 D = none := I2.hok.fresh (Nat.le_of_eq hD)
  obtain ⟨W0, ⟨m0, w0⟩, turn⟩ := q D hDn
  generalize hs3 : ({ s2 with heap := s2.heap.push { cls := .type "list", data := .seq ([] : List Value).toArray } } : Shared) = s3
  have hp3 : s3.heap = s2.heap.push { cls := .type "list", data := .seq ([] : List Value).toArray } := by rw [← hs3]
  have I3 : Inv X pins σ (upd H2 D (.lst [])) s3 := by
    rw [← hs3]
    refine I2.laid (t' := s2.toks) (fun b o e => Heap.get?_push_of_some _ e) (Nat.le_of_eq hD) ⟨Nat.zero_le _, [], 0, .nil, ?_⟩
    rw [← hD]
    exact Heap.get?_push_size _ rfl
  have sz : ∀ b ∈ fp, b < s2.heap.objs.size := fun b hb => by
    obtain ⟨o, e, _⟩ := T.obj _ _ st2 b hb
    exact Heap.lt_size e
  have f3 : ∀ b ∈ fp, FpOk X pins (upd H2 D (.lst [])) b ∧ b < s3.heap.objs.size := fun b hb => by
    have lt := sz b hb
    refine ⟨⟨?_, (f2 b hb).2⟩, by rw [hp3, Heap.size_push]; exact Nat.lt_succ_of_lt lt⟩
    rw [upd_ne (by rw [← hD]; exact Nat.ne_of_lt lt)]
    exact (f2 b hb).1
  have st3 : tn 0 s3.heap := T.keep _ _ _ st2 fun b _ o e => by rw [hp3]; exact Heap.get?_push_of_some _ e
  have I4 := block_start I3 ok hN f3
  generalize hC : s3.heap.objs.size = C at I4 ⊢
  generalize hcl0 : cellsFrom (C + 1) scope.names (cloFrom X.env.cells scope.names []) = cls0 at I4 ⊢
  have hg := hg s3 (upd H2 D (.lst [])) C cls0 fp
  have ht := ht s3 (upd H2 D (.lst [])) C cls0 fp
  have he := he s3 (upd H2 D (.lst [])) C cls0 fp
  show codeAny _ _ (.compStart (.ListComp elt [⟨tg, iter, ifs, 0⟩] scope pos) 0 (.ref it) (.ref D) (compEnvC scope cls0 C X.env)) (EndE _ X.A X.xe (.ref D) _ (compEnvC scope cls0 C X.env)) { s3 with heap := pushCells (s3.heap.push { cls := .type "dict", data := .dict #[] }) scope.names }
  generalize hs4 : ({ s3 with heap := pushCells (s3.heap.push { cls := .type "dict", data := .dict #[] }) scope.names } : Shared) = s4 at I4 ⊢
  have st4 : tn 0 s4.heap := T.keep _ _ _ st3 fun b _ o e => by rw [← hs4]; exact pushCells_keeps _ _ _ _ (Heap.get?_push_of_some _ e)
  have nfp : ∀ b ∈ fp, (upd H2 D (.lst [])) b = none := fun b hb => (f3 b hb).1.1
  have hcf : (compEnvC scope cls0 C X.env).frame = X.env.frame := rfl
  have hcL : (compEnvC scope cls0 C X.env).locals = C := rfl
  generalize compEnvC scope cls0 C X.env = ce at I4 hg ht he hcf hcL ⊢
  generalize upd H2 D (.lst []) = H3 at I3 I4 hg ht he w0 nfp f3
  have hp := fun acc Qf => passes_blk (scope := scope) (acc := acc) (Qf := Qf) tk (fun _ _ _ z => z) hst hf I3 f3 hcf (hcL.trans hC.symm)
  generalize hY : (X.blk s3 H3 scope ce fp).wish (fun e t => notedBy (model X.prog X.w) X.A ce (fun e' t' => EndE (model X.prog X.w) X.A X.xe (.ref D) (EP X pins σ Q) ce (.error e') t') e t) = Y
  have I4 : Inv Y [] (wipe σ (own.map (·.2))) H3 s4 := by rw [← hY]; exact I4.wish _
  have hg : PG Y tg g := by rw [← hY]; exact hg _
  have ht : PTs Y ifs tt := by rw [← hY]; exact ht _
  have he : PE Y elt te := by rw [← hY]; exact he _ (hp _ _)
  have yc : Y.calm = true := by rw [← hY]; exact hcl
  have stat : ∀ {σ' : L2.St} {H' : Hp} {t : Shared}, Inv Y [] σ' H' t → (∀ b ∈ fp, H' b = none) → ∀ b ∈ fp, FpOk Y [] H' b := fun {σ' H' t} I' hn b hb => by
    subst hY
    exact ⟨hn b hb, (I'.ok.exf b hb).1, I'.ok.exfs b hb, .inl hb, fun x c e => (I'.ok.exf b hb).2 x c e, fun p hp => absurd (show p ∈ ([] : List (Addr × Obj)) ++ [] from hp) (by simp)⟩
  have loop : codeAny (model X.prog X.w) X.A (.compLoop (.ListComp elt [⟨tg, iter, ifs, 0⟩] scope pos) 0 (.ref it) (.ref D) ce) (EndE (model X.prog X.w) X.A X.xe (.ref D) (EP X pins σ Q) ce) s4 := by
    refine compLoop_any (fun n t => ∃ i H', Inv Y [] (wipe σ (own.map (·.2))) H' t ∧ tn i t.heap ∧ (∀ b ∈ fp, H' b = none) ∧ W0 i n H') ?_ m0 ⟨0, H3, I4, st4, nfp, w0⟩
    rintro n s5 ⟨i, H5, I5, st5, n5, w5⟩
    rcases turn i n H5 w5 with ⟨stop, qq⟩ | ⟨goOn, Nx, hNx, step⟩
    · have td := T.done Y (by rw [← hY]) (by rw [← hY]) (by rw [← hY]) yc i [] s5 _ H5 Y.xe I5 (stat I5 n5) st5 stop
      subst hY
      refine thn td fun r s6 hr6 => ?_
      obtain ⟨rfl, I6⟩ := hr6
      have I7 : Inv X pins σ H5 s6 := I3.call' (ch := fp) I6.os I6.base I6.hok I6.bare fun b hb => ⟨(f3 b hb).1.2.2.2.1, (f3 b hb).1.2.1, (f3 b hb).1.2.2.2.2.1, (f3 b hb).1.2.2.2.2.2⟩
      have nC : H5 C = none := by have z : H5 ce.locals = none := I6.free; rw [← hcL]; exact z
      obtain ⟨m, hn, _⟩ := I6.loc
      refine ⟨m, hn, fun h' sb => ?_⟩
      obtain ⟨k0, k1, k2, k3, k4, k5⟩ := I3.fpOk (b := C) (H' := H5) (Nat.le_of_eq hC) nC
      have sb : Heap.SameBut C s6.heap h' := by rw [← hcL]; exact sb
      exact ⟨.ref D, H5, I7.turned (t' := s6.toks) (fun b o hb e => (sb.2 b hb).trans e) k0 k1 k3 k4 k5, rfl, qq⟩
    · have ti := T.item Y (by rw [← hY]) (by rw [← hY]) (by rw [← hY]) yc i [] s5 _ H5 Y.xe I5 (stat I5 n5) st5 goOn
      have fin : ∀ {s7 t : Shared} {σ8 : L2.St} {H' : Hp}, wipe σ8 (own.map (·.2)) = wipe σ (own.map (·.2)) → tn (i + 1) s7.heap → Inv Y ([] ++ pinsAt fp s7.heap) σ8 H' t → Nx H' → ∃ m, m < n ∧ ∃ i H', Inv Y [] (wipe σ (own.map (·.2))) H' t ∧ tn i t.heap ∧ (∀ b ∈ fp, H' b = none) ∧ W0 i m H' := fun {s7 t σ8 H'} hw8 st7 I' nx => by
        obtain ⟨m', hm, w'⟩ := hNx H' nx
        have pin' : ∀ b ∈ fp, ∀ o, s7.heap.get? b = some o → t.heap.get? b = some o ∧ H' b = none := fun b hb o e =>
          let z := I'.pin (b, o) (List.mem_append_right _ (List.mem_append_right _ (mem_pinsAt hb e)))
          ⟨z.1, z.2.1⟩
        have hl : (wipe σ (own.map (·.2))).length = σ8.length := by rw [← hw8, wipe_length]
        refine ⟨m', hm, i + 1, H', (I'.unpinned (pins := [])).weak hl (fun j v e => ?_), T.keep _ _ _ st7 fun b hb o e => (pin' b hb o e).1, fun b hb => ?_, w'⟩
        · rw [← hw8] at e
          exact (wipe_some e).1
        · obtain ⟨o, e, _⟩ := T.obj _ _ st7 b hb
          exact (pin' b hb o e).2
      have pinAll := fun {t : Shared} {σ' : L2.St} {H' : Hp} (I' : Inv Y [] σ' H' t) hn (st : tn (i + 1) t.heap) => I'.pinned (stat I' hn) (T.obj _ _ st)
      subst hY
      refine thn ti fun r s6 hr6 => ?_
      obtain ⟨u, rfl, h6⟩ := hr6
      refine thn h6 fun _ s7 hs7 => ?_
      obtain ⟨x, H7, I7, r7, y7, st7, n7⟩ := hs7
      refine thn (hg.run _ s7 _ H7 x u _ (pinAll I7 n7 st7) r7 (step x H7 y7)) fun _ s8 hs8 => ?_
      obtain ⟨σ8, H8, I8, hw8, q8⟩ := hs8
      refine thn (ht.run _ s8 σ8 H8 _ I8 q8) fun b s9 hs9 => ?_
      obtain ⟨H9, I9, q9⟩ := hs9
      cases b with
      | false =>
        simp only [Bool.false_eq_true, if_false] at q9 ⊢
        exact fin hw8 st7 I9 q9
      | true =>
        simp only [if_true] at q9 ⊢
        refine thn (he.run _ s9 σ8 H9 _ I9 q9) fun z s10 hs10 => ?_
        obtain ⟨yv, H10, I10, r10, acc, hD10, hz10, nx⟩ := hs10
        exact app_ok (X := (X.blk s3 H3 scope ce fp).wish _) I10 hD10 hz10 r10 fun s11 I11 => fin hw8 st7 I11 nx
  exact codeAny_compStart_list loop (T.self X.A 0 _ _ _ st4 loop)
end
end PwE

set_option Elab.async false
set_option linter.all false
set_option maxRecDepth 100000
/-! a text cut at one sign: what stands in its parts -/
namespace Pw
open PySem PySem.Builtin PySem.Builtin.Str PySem.StrLaws TL
theorem spl_cons (c d : Nat) (r acc : List Nat) : spl [c] 0 acc (d :: r) = if d = c then acc :: spl [c] 0 [] r else spl [c] 0 (acc ++ [d]) r := by
  by_cases h : d = c
  · rw [if_pos h, h, spl_hit (by show ((c :: r).take 1 == [c]) = true; simp)]
    rfl
  · rw [if_neg h, spl_miss (pre_of_head [] r h)]
theorem spl_some (c : Nat) : ∀ (l acc : List Nat), spl [c] 0 acc l ≠ []
  | [], acc => by rw [spl_nil]; exact List.cons_ne_nil _ _
  | d :: r, acc => by
    rw [spl_cons]
    by_cases h : d = c
    · rw [if_pos h]; exact List.cons_ne_nil _ _
    · rw [if_neg h]; exact spl_some c r _
theorem spl_has {c d : Nat} (hd : d ≠ c) : ∀ (l acc : List Nat), (∃ p ∈ spl [c] 0 acc l, d ∈ p) ↔ (d ∈ acc ∨ d ∈ l)
  | [], acc => by
    rw [spl_nil]
    simp
  | e :: r, acc => by
    rw [spl_cons]
    by_cases h : e = c
    · have ih := spl_has hd r []
      rw [if_pos h]
      have hde : d ≠ e := fun z => hd (z.trans h)
      constructor
      · rintro ⟨p, hp, hm⟩
        rcases List.mem_cons.mp hp with rfl | hp
        · exact .inl hm
        · rcases ih.mp ⟨p, hp, hm⟩ with z | z
          · cases z
          · exact .inr (List.mem_cons_of_mem _ z)
      · rintro (z | z)
        · exact ⟨acc, List.mem_cons_self .., z⟩
        · rcases List.mem_cons.mp z with z | z
          · exact absurd z hde
          · obtain ⟨p, hp, hm⟩ := ih.mpr (.inr z)
            exact ⟨p, List.mem_cons_of_mem _ hp, hm⟩
    · have ih := spl_has hd r (acc ++ [e])
      rw [if_neg h, ih, List.mem_append, List.mem_singleton, List.mem_cons, or_assoc]
theorem split_is {c : Nat} (hc : c ≤ 127) (x : Str) : (Txt.split x ⟨#[c]⟩).map tl = spl [c] 0 [] (tl x) :=
  split_spl x ⟨#[c]⟩ (by show [c] ≠ []; simp) (kind_ok (by simp; omega))
theorem split_some {c : Nat} (hc : c ≤ 127) (x : Str) : Txt.split x ⟨#[c]⟩ ≠ [] := fun h => by
  have e := split_is hc x
  rw [h] at e
  exact spl_some c _ _ e.symm
theorem split_has {c d : Nat} (hc : c ≤ 127) (hd : d ≠ c) (x : Str) : (∃ p ∈ Txt.split x ⟨#[c]⟩, d ∈ tl p) ↔ d ∈ tl x := by
  have e := split_is hc x
  have k := spl_has hd (tl x) []
  rw [← e] at k
  constructor
  · rintro ⟨p, hp, hm⟩
    exact (k.mp ⟨tl p, List.mem_map_of_mem hp, hm⟩).elim (fun z => nomatch z) id
  · intro h
    obtain ⟨q, hq, hm⟩ := k.mpr (.inr h)
    obtain ⟨p, hp, rfl⟩ := List.mem_map.mp hq
    exact ⟨p, hp, hm⟩
end Pw
namespace Pw
open PySem PySem.Builtin PySem.Builtin.Str PySem.StrLaws TL L2
/-- the room that texts take, with a sign behind each -/
def totS (ps : List Str) : Nat := (ps.map (·.length)).sum + ps.length
theorem totS_cons (x : Str) (ps : List Str) : totS (x :: ps) = x.length + 1 + totS ps := by
  unfold totS
  rw [List.map_cons, List.sum_cons, List.length_cons]
  omega
theorem totS_app (a b : List Str) : totS (a ++ b) = totS a + totS b := by
  unfold totS
  rw [List.map_append, List.sum_append, List.length_append]
  omega
theorem totS_take (n : Nat) (ps : List Str) : totS (ps.take n) + totS (ps.drop n) = totS ps := by
  rw [← totS_app, List.take_append_drop]
theorem totS_mem {x : Str} : ∀ {ps : List Str}, x ∈ ps → x.length + 1 ≤ totS ps
  | y :: ps, h => by
    rw [totS_cons]
    rcases List.mem_cons.mp h with rfl | h
    · omega
    · have := totS_mem h
      omega
theorem totS_set (q : Str) : ∀ (ps : List Str) (i : Nat), totS (ps.set i q) ≤ totS ps + (q.length + 1)
  | [], i => by rw [List.set_nil]; omega
  | y :: ps, 0 => by rw [List.set_cons_zero, totS_cons, totS_cons]; omega
  | y :: ps, i + 1 => by
    rw [List.set_cons_succ, totS_cons, totS_cons]
    have := totS_set q ps i
    omega
theorem totS_len (ps : List Str) : ps.length ≤ totS ps := by unfold totS; omega
theorem joinL_tot (c : Nat) : ∀ ps : List (List Nat), (joinL c ps).length ≤ (ps.map List.length).sum + ps.length
  | [] => Nat.zero_le _
  | [a] => by
    show a.length ≤ [a.length].sum + 1
    simp
  | a :: b :: r => by
    have ih := joinL_tot c (b :: r)
    show (a ++ c :: joinL c (b :: r)).length ≤ _
    rw [List.length_append, List.length_cons, List.map_cons, List.sum_cons, List.length_cons]
    omega
theorem tl_sum (ps : List Str) : ((ps.map tl).map List.length) = ps.map (·.length) := by
  rw [List.map_map]
  refine List.map_congr_left fun x _ => ?_
  exact (len_tl x).symm
theorem join_tot (c : Nat) (ps : List Str) : (Txt.join ⟨#[c]⟩ ps).length ≤ totS ps := by
  rw [len_tl, tl_join]
  have := joinL_tot c (ps.map tl)
  rw [tl_sum, List.length_map] at this
  exact this
theorem spl_tot (c : Nat) : ∀ (l acc : List Nat), ((spl [c] 0 acc l).map List.length).sum + (spl [c] 0 acc l).length = acc.length + l.length + 1
  | [], acc => by
    rw [spl_nil]
    simp
  | d :: r, acc => by
    rw [spl_cons]
    by_cases h : d = c
    · rw [if_pos h, List.map_cons, List.sum_cons, List.length_cons, List.length_cons]
      have := spl_tot c r []
      rw [List.length_nil] at this
      omega
    · rw [if_neg h, spl_tot c r (acc ++ [d]), List.length_append, List.length_cons, List.length_cons, List.length_nil]
      omega
theorem split_tot {c : Nat} (hc : c ≤ 127) (x : Str) : totS (Txt.split x ⟨#[c]⟩) = x.length + 1 := by
  have h := spl_tot c (tl x) []
  rw [← split_is hc x, tl_sum, List.length_map, List.length_nil, ← len_tl] at h
  unfold totS
  omega
theorem cutS_len (x : Str) (lo hi : Option Int) : (cutS x lo hi).length ≤ x.length := by
  rw [len_tl, len_tl x]
  show (((tl x).drop _).take _).toArray.toList.length ≤ _
  rw [List.length_take, List.length_drop]
  omega
theorem cutV_take {α : Type} (f : α → V) (xs : List α) (k : Nat) : cutV (xs.map f) none (some (k : Int)) = (xs.take k).map f := by
  unfold cutV
  rw [HT.sIx_none, HT.sIx_nat, Nat.sub_zero, List.drop_zero, List.length_map, ← List.map_take]
  congr 1
  by_cases h : k ≤ xs.length
  · rw [Nat.min_eq_left h]
  · rw [Nat.min_eq_right (by omega), List.take_length, List.take_of_length_le (by omega)]
theorem cutV_drop {α : Type} (f : α → V) (xs : List α) (k : Nat) : cutV (xs.map f) (some (k : Int)) none = (xs.drop k).map f := by
  unfold cutV
  rw [HT.sIx_nat, HT.sIx_none, List.length_map, ← List.map_drop, ← List.map_take]
  congr 1
  by_cases h : k ≤ xs.length
  · rw [Nat.min_eq_left h, List.take_of_length_le (by rw [List.length_drop]; exact Nat.le_refl _)]
  · rw [Nat.min_eq_right (by omega), List.drop_length, List.drop_of_length_le (by omega), List.take_nil]
end Pw

set_option Elab.async false
set_option linter.all false
set_option maxRecDepth 100000
set_option maxHeartbeats 2000000
/-! a def that asks and tells what came, or None and what an error bears -/
namespace Pw
open PySem PySem.Spec PyProof.Rows L2 LamX
def TTtold (K : PySem.W.Frag) (l : List (Value × (Addr → Value → Option Addr → TS))) : (XK → Hp → VK → Prop) → Hp → VK → Prop := fun tl H Q =>
  ∃ (E : XK) (Q' : VK), (∀ (f : Addr) cls dd G, E cls dd G → wAll K 3 (fun _ _ _ _ => False) (whyEnds Q) l cls dd [some (.ref f), some .non, some .non, none] G) ∧
    (∀ v G, Q' v G → ∀ p, G p = none → Q (.ref p) (upd G p (.tup [v, .non]))) ∧ tl E H Q'
section
variable {X : Cx}
theorem told_gives {x a tn wn en q : Str} {sg : Scope} {g : Addr} {cdg : Value} {j1 j2 j3 : Nat} {h0 : ExceptHandler} {hds : List ExceptHandler} {l : List (Value × (Addr → Value → Option Addr → TS))} {p1 p2 p3 p4 p5 p6 p7 p8 p9 p10 p11 p12 p13 p14 p15 : Pos}
    (S : FnScope [a, tn, wn, en] [a] sg) (k1 : sg.names.lookup tn = some .local) (k2 : sg.names.lookup wn = some .local) (k3 : sg.names.lookup en = some .local)
    (d1 : (tn == ("__debug__" : Str)) = false) (d2 : (tn == ("__classdict__" : Str)) = false) (d3 : (wn == ("__debug__" : Str)) = false) (d4 : (wn == ("__classdict__" : Str)) = false)
    (hcl : ∀ (s : Shared) (H : Hp), AsOk (cxOf C8.CX0 X.prog X.w X.K X.mg X.base [a, tn, wn, en] x sg g cdg X.A X.stack s H C8.E0).nox en (h0 :: hds) l) :
    GivesW X [a, tn, wn, en] x sg g cdg [.Assign [.Name tn p1] (.Constant .none j1 p2) p3, .Assign [.Name wn p4] (.Constant .none j2 p5) p6, .Try [.Assign [.Name tn p7] (.Call (.Name a p8) [] [] p9) p10] (h0 :: hds) [] [] p11, .Return (some (.Tuple [.Name tn p12, .Name wn p13] j3 p14)) p15] a q (TTtold X.K l) := by
  intro f c' s H Q tl act hc h
  obtain ⟨E, Q', hE, hQ, h⟩ := h
  refine ⟨_, pss_cons (ps_set (i := 1) S.nd rfl (.inl k1) pe_non) (pss_cons (ps_set (i := 2) S.nd rfl (.inl k2) pe_non)
    (pss_cons (ps_tryAll (i := 3) (n := en) (Wo := fun _ _ _ _ => False) (tb := fun W => tAsg (fun σZ HZ Q => ∃ (E : XK) (Q' : VK), (∀ cls dd G, E cls dd G → W cls dd σZ G) ∧ (∀ v G, Q' v G → Q v G) ∧ σZ[0]? = some (some (.ref f)) ∧ HZ c' = some (CodeO c' q) ∧ tl E HZ Q') (gName 1)) rfl rfl S.nd rfl k3
      (fun _ _ z => by obtain ⟨_, _, _, _, _, _, _, _, _, _, _, _, _, _, _, _, z⟩ := z; exact z.elim)
      (fun W pn xe tk _ => pss_one (ps_set (i := 1) S.nd rfl (.inl k1) (act W pn xe p8 p9 tk))) (hcl s H))
    (pss_one (ps_ret (pe_tup (pa_cons (pe_var (i := 1) rfl (.inl k1) d1 d2) (pa_cons (pe_var (i := 2) rfl (.inl k2) d3 d4) pa_nil))))))), ?_⟩
  refine ⟨E, Q', fun cls dd G e => hE f cls dd G e, fun v G q => ?_, rfl, hc, h⟩
  exact ⟨v, rfl, .non, rfl, by show 2 ≤ sizeLine; decide, fun p hp => hQ v G q p hp⟩
end
end Pw

set_option Elab.async false
set_option linter.all false
set_option maxRecDepth 100000
set_option maxHeartbeats 4000000
namespace Pw
open PySem PySem.Spec PyProof.Rows L2 L2H HotX
/-- an own __init__'s context while an exception is handled -/
def supCxH (P : Program) (w : World) (K : PySem.W.Frag) (mg : Str → Option Value) (base : Heap) (f : Str) (qual : Str) (fI cda cc : Addr) (A : Around) (outer : List Env) (s : Shared) (H : Hp) (p : Addr × Obj) : Cx :=
  { supCx P w K mg base f qual fI cda cc A outer s H with calm := false, pn := [p] }
section
variable {P : Program} {w : World} {K : PySem.W.Frag} {mg : Str → Option Value} {base : Heap} {f qual : Str} {C fI cda cc : Addr}
theorem sup_startH {A : Around} {outer : List Env} {s : Shared} {H : Hp} {h₁ : Heap} {a : Addr} {v : V} {u : Value} {tk : Nat} (hfs : (f == ("self" : Str)) = false) (hfc : (f == ("__class__" : Str)) = false) (T : SupC P K mg C fI cc cda f) {p : Addr × Obj} (hpin : PinOk outer H s p) (e0 : Env0 P w K mg base A outer s H) (rv : RelV v u)
    (hns : h₁.Ns s.heap.objs.size (fun x => ([("self", Value.ref a), (f, u)] : List (Str × Value)).reverse.lookup x)) (kp : ∀ b o, s.heap.get? b = some o → h₁.get? b = some o) :
    Inv (supCxH P w K mg base f qual fI cda cc A outer s H p) [] [some (.ref a), some v] H { s with heap := h₁, toks := tk } := by
  obtain ⟨cl, cld, csl, hcell⟩ := T.cell
  have hcb : base.get? cc = some ⟨cl, cld, .cell (some (.ref C)), csl⟩ := e0.mod.kin _ _ hcell
  have hcs := e0.bs _ _ hcb
  have noA : ∀ b : Addr, b ∉ (supCxH P w K mg base f qual fI cda cc A outer s H p).ex := fun b z => absurd (show b ∈ ([] : List Addr) from z) (by simp)
  have only : ∀ {y : Str} {c : Addr}, ([("__class__", cc)] : List (Str × Addr)).lookup y = some c → y = "__class__" ∧ c = cc := fun {y c} e => by
    by_cases hy : y = "__class__"
    · subst hy
      have e2 : some cc = some c := e
      exact ⟨rfl, (Option.some.inj e2).symm⟩
    · have : (y == ("__class__" : Str)) = false := by simpa using hy
      simp [List.lookup, this] at e
  refine ⟨⟨e0.mod, rfl, rfl, rfl, Nat.le_refl _, fun y z c e1 e2 => ?_, fun y hy => ?_, fun y c z _ => ?_, (fun z => Bool.noConfusion (show false = true from z)), Around.frames_deeper e0.frames, .inr ⟨rfl, rfl⟩, fun b z => absurd z (noA b), e0.bs, e0.bsz, fun b _ _ => noA b,
      fun b z => absurd z (noA b), e0.funs, e0.frf⟩,
    rfl, e0.bare, Un.kept kp, ⟨_, hns, fun i y v' e1 e2 e3 => ?_⟩, fun y c e => ?_, e0.hok.fresh (Nat.le_refl _), fun y c e => ?_, fun q hq => ?_, e0.hok.kept kp, rfl⟩
  · exact (only e1).1.trans (only e2).1.symm
  · have hy : (supScope f).names.lookup y = some .cell ∨ (supScope f).names.lookup y = some .free := hy
    have : y = "__class__" := by
      by_cases h1 : y = "self"
      · subst h1
        rcases hy with h | h <;> cases h
      · by_cases h2 : y = f
        · subst h2
          have q1 : (y == ("self" : Str)) = false := hfs
          simp [List.lookup, q1] at hy
        · by_cases h3 : y = "__class__"
          · exact h3
          · have q1 : (y == ("self" : Str)) = false := by simpa using h1
            have q2 : (y == f) = false := by simpa using h2
            have q3 : (y == ("__class__" : Str)) = false := by simpa using h3
            by_cases h4 : y = "super"
            · subst h4
              simp [List.lookup, q1, q2, q3] at hy
            · have q4 : (y == ("super" : Str)) = false := by simpa using h4
              simp [List.lookup, q1, q2, q3, q4] at hy
    subst this
    exact ⟨cc, rfl⟩
  · have z : false = true := z
    cases z
  · match i, e1, e2 with
    | 0, e1, e2 =>
      have e1 : "self" = y := Option.some.inj e1
      have e2 : V.ref a = v' := Option.some.inj (Option.some.inj e2)
      subst e1
      subst e2
      refine ⟨_, rfl, .inl ⟨rfl, ?_⟩⟩
      have q : (("self" : Str) == f) = false := by
        have := hfs
        rw [beq_eq_false_iff_ne] at this ⊢
        exact this.symm
      simp [List.lookup, q]
    | 1, e1, e2 =>
      have e1 : f = y := Option.some.inj e1
      have e2 : v = v' := Option.some.inj (Option.some.inj e2)
      subst e1
      subst e2
      refine ⟨_, rv, .inl ⟨?_, by simp [List.lookup]⟩⟩
      show (supScope f).names.lookup f = some .local
      simp [List.lookup, hfs]
    | n + 2, e1, e2 => simp [supCxH, supCx] at e1
  · obtain ⟨_, rfl⟩ := only e
    exact ⟨_, _, kp _ _ hcs.1, rfl⟩
  · obtain ⟨_, rfl⟩ := only e
    exact hcs.2
  · have eq : q = p := by simpa using (show q ∈ [p] ++ ([] : List (Addr × Obj)) from hq)
    rw [eq]
    exact ⟨kp p.1 p.2 hpin.get, hpin.free, Nat.ne_of_lt (Heap.lt_size hpin.get), hpin.nofs, hpin.nocell⟩

theorem fn_supH {k : Nat} {CX : CXT} {Okv : V → Prop} {name : Str} {ap : Arguments} {mv : List Expr} {pj : Pos} {dV kV doc pm ct oc : Value} {an od : Option Addr} {osl : Array (Option Value)} {p0 p1 p2 p3 p4 p5 p6 p7 p8 : Pos}
    (hfs : (f == ("self" : Str)) = false) (hfc : (f == ("__class__" : Str)) = false) (hfu : (f == ("super" : Str)) = false) (hfd : (f == ("__debug__" : Str)) = false) (hfcd : (f == ("__classdict__" : Str)) = false) (T : SupC P K mg C fI cc cda f)
    (hap : (ap.posonlyargs ++ ap.args).head?.map (·.arg) = some ("self" : Str))
    (lk : K.lookup fI = some ⟨oc, od, .func (PySem.W.ksFn name qual ap (supBody (.JoinedStr mv pj) f p0 p1 p2 p3 p4 p5 p6 p7 p8) (supScope f) dV kV doc pm an (.ref cda) ct cc), osl⟩) (hcd : PySem.W.codeIn K (.ref cda) qual = true)
    (hmsg : ∀ X : Cx, X.N = (["self", f] : List Str) → X.env.scope = supScope f → ∃ tm : TE, PE X (.JoinedStr mv pj) tm ∧ ∀ (a : Addr) (v : V) (H : Hp) (Q : VK), Okv v → (∀ z : Str, Q (.str z) H) → tm [some (.ref a), some v] H Q)
    {pl : Sem Bool} (he : ∀ env : Env, eval (.Call (.Attribute (.Call (.Name "super" p0) [] [] p1) "__init__" p2) [.JoinedStr mv pj] [] p3) env = (do
      let ov ← attributeBase (.Call (.Name "super" p0) [] [] p1) "__init__" env (eval (.Call (.Name "super" p0) [] [] p1) env)
      standAt p2.atName
      let (f, first) ← holding [ov] (getMethod ov "__init__" pl)
      callWith p3 f first (backTo p3 (starEach [.JoinedStr mv pj] env)) [])) :
    FnH P w K mg base CX (k + 1) fI (PySem.W.ksFn name qual ap (supBody (.JoinedStr mv pj) f p0 p1 p2 p3 p4 p5 p6 p7 p8) (supScope f) dV kV doc pm an (.ref cda) ct cc) ["self", f] (spSup C f Okv) := by
  refine ⟨fun vs H Q E h => ?_, fun A outer s H args us vs Q E p hr hot hpin e0 hb r hsp => ?_⟩
  · obtain ⟨a, v, rfl, _⟩ := h
    rfl
  obtain ⟨a, v, rfl, hv, ha, q⟩ := hsp
  obtain ⟨u1, rfl, rv⟩ : ∃ u1, us = [.ref a, u1] ∧ RelV v u1 := by
    cases r with
    | cons r0 r1 =>
      cases r1 with
      | cons r1 r2 =>
        cases r2
        cases r0
        exact ⟨_, rfl, r1⟩
  have KX : K.In s.heap := e0.mod.kin.keeps fun b o e => (e0.bs b o e).1
  have lim : s.heap.NoLimit := e0.mod.nolimit.keeps fun b o e => (e0.bs b o e).1
  have hfs' : (f == ("self" : Str)) = false := hfs
  refine PySem.ks_codeAny_call_defAt (fd := PySem.W.ksFn name qual ap (supBody (.JoinedStr mv pj) f p0 p1 p2 p3 p4 p5 p6 p7 p8) (supScope f) dV kV doc pm an (.ref cda) ct cc) (body := supBody (.JoinedStr mv pj) f p0 p1 p2 p3 p4 p5 p6 p7 p8) (binds := [("self", .ref a), (f, u1)])
    hr.depth (KX _ _ lk) rfl lim (PySem.W.codeRec_of KX hcd) rfl hb ?_ ?_ (fun h₁ hns kp => ?_) rfl rfl rfl
  · intro x hx
    have hx : x ∈ (supScope f).names := hx
    simp at hx
    rcases hx with rfl | rfl | rfl | rfl <;> simp
  · intro x hx
    simp at hx
    show (supScope f).names.lookup x.1 = some .local
    rcases hx with rfl | rfl
    · rfl
    · simp [List.lookup, hfs']
  have I : Inv (supCxH P w K mg base f qual fI cda cc A outer s H p) [] [some (.ref a), some v] H { s with heap := h₁, toks := s.toks + 2 } := sup_startH hfs hfc T hpin e0 rv hns kp
  have KX1 : K.In h₁ := I.kIn
  obtain ⟨t1, hoe⟩ := exo_at I.hok ha
  obtain ⟨nm, qn, N, bs, bm, sn, sub, ab, col, dd, k0, k1, k2, k3, k5, hC, hbm⟩ := T.oex.cls
  have hcl : PySem.W.clsIn K C = some { name := nm, bases := bs, mro := .ref C :: bm, ns := N, qualname := qn, hasDict := true, slotNames := sn, subclasses := sub, abstract := ab, collection := col, hasDel := false } := by unfold PySem.W.clsIn; rw [hC] <;> rfl
  have hC1 := KX1 _ _ hC
  obtain ⟨ccl, cdd, vs, ccs, file, tf, hcode, hvs, hfile⟩ := T.code
  obtain ⟨cl, cld, csl, hcell⟩ := T.cell
  obtain ⟨ar, har, hara⟩ : ∃ ar : Arg, (ap.posonlyargs ++ ap.args).head? = some ar ∧ ar.arg = "self" := by
    cases e : (ap.posonlyargs ++ ap.args).head? with
    | none =>
      rw [e] at hap
      cases hap
    | some ar =>
      rw [e] at hap
      exact ⟨ar, rfl, Option.some.inj hap⟩
  have hInst : PySem.W.InstAt h₁ a { cls := .ref C, dict := none, data := .fields #[.ref t1, .none, .none, .none, .bool false, .none] } C none := ⟨hoe, rfl, rfl, trivial⟩
  have hxC : a ≠ C := PySem.W.ks_ne KX1 hInst hcl
  have sy : ∀ {x y : Str}, (x == y) = false → (y == x) = false := fun {x y} h => by
    rw [beq_eq_false_iff_ne] at h ⊢
    exact h.symm
  have l_super : (supScope f).names.lookup ("super" : Str) = some .globalImplicit := by
    have q1 := sy hfu
    have q2 : (("super" : Str) == ("self" : Str)) = false := by decide
    have q3 : (("super" : Str) == ("__class__" : Str)) = false := by decide
    simp [List.lookup, q1, q2, q3]
  have l_class : (supScope f).names.lookup ("__class__" : Str) = some .free := by
    have q1 := sy hfc
    have q2 : (("__class__" : Str) == ("self" : Str)) = false := by decide
    simp [List.lookup, q1, q2]
  have l_f : (supScope f).names.lookup f = some .local := by simp [List.lookup, hfs']
  obtain ⟨mb, hb1, hb2⟩ := e0.mod.blt
  refine PySem.ks_wpAt_execs_cons (PySem.ks_wpAt_Expr_any (PySem.ks_wpAt_MethodCall (pl := pl) ?_ (he _)) rfl rfl)
  refine PySem.ks_wpAt_super_base (env := PySem.W.ksEnv qual (supScope f) s.heap.objs.size fI (.ref cda) cc) ?ks ?kc rfl rfl (KX1 _ _ lk) rfl har rfl (KX1 _ _ hcode) rfl hvs hfile T.topS ?_
  case ks => exact l_super
  case kc => exact l_class
  refine PySem.W.ks_loadName_global rfl l_super (PySem.Calls.loadGlobal_builtin (env := PySem.W.ksEnv qual (supScope f) s.heap.objs.size fI (.ref cda) cc) (I.mod.glob.keeps I.bk) T.mgS (hb1.keeps I.bk) ((hb2 _ (by decide)).trans PyProof.Rows.Boot.«super») ⟨rfl, ?_⟩)
  refine wpAny_loadName_free rfl l_class rfl ⟨_, KX1 _ _ hcell, rfl⟩ ?_
  rw [hara]
  refine wpAny_loadName_local rfl rfl hns (v := .ref a) ?_ ?_
  · have q := sy hfs
    simp [List.lookup, q]
  refine PySem.ks_wpAny_isType_cls hC1 rfl ⟨rfl, ?_⟩
  refine PySem.ks_wpAny_call_super hC1 rfl hoe rfl (fun c e => by cases e) (PySem.W.looks_mroIn KX1 T.sub) (fun h2 hso k2 => ?_)
  have I2 := I.kept (h' := h2) (t' := s.toks + 2) k2
  have KX2 : K.In h2 := I2.kIn
  have hInst2 : PySem.W.InstAt h2 a { cls := .ref C, dict := none, data := .fields #[.ref t1, .none, .none, .none, .bool false, .none] } C none := ⟨k2 _ _ hoe, rfl, rfl, trivial⟩
  refine PySem.W.kxs_getMethod PySem.W.kxs_ValueError hso (PySem.W.looks_opaque KX2 T.op) (l₀ := .ref C :: bm) ?mro rfl KX2 ?along (hInst2.type.andThen (PySem.W.looks_subIn KX2 T.subVE)) hxC rfl ?_
  case mro => exact fun A Q E s k q => wpAny_bind ((PySem.W.looks_clsIn KX2 hcl) A _ E s k (wpAny_pure q))
  case along =>
    have z := T.sup
    unfold PySem.W.ks_superIn at z
    rw [hcl] at z
    exact z
  have I3 := I2.kept (h' := h2.push (PySem.W.kxs_mw "ValueError.__init__" a)) (t' := s.toks + 2 + 1) (fun b o e => Heap.get?_push_of_some _ e)
  have hsz : H h2.objs.size = none := I2.hok.fresh (Nat.le_refl _)
  have I4 := I3.pins_of (pins' := [(h2.objs.size, PySem.W.kxs_mw "ValueError.__init__" a)]) (fun p hp => by
    obtain rfl : p = (h2.objs.size, PySem.W.kxs_mw "ValueError.__init__" a) := by simpa using hp
    exact ⟨Heap.get?_push_at rfl rfl, hsz, Nat.ne_of_gt I2.lt, I2.nofs (Nat.le_refl _), fun v z => by cases z⟩)
  obtain ⟨tm, hpe, htm⟩ := hmsg (supCxH P w K mg base f qual fI cda cc A outer s H p) rfl rfl
  refine PySem.W.kxs_callWith (i := "ValueError.__init__") (x := a) rfl (PySem.Calls.evalArgs_plain ?_)
  refine wpAny_mono ((pa_cons hpe pa_nil).run p3 _ _ _ H (fun vs H1 => (∃ z, vs = [.str z]) ∧ H1 = H) I4 (htm a v H _ hv fun z => ⟨⟨z, rfl⟩, rfl⟩)) (fun us s5 hq5 => ?_) (fun _ _ z => z.elim)
  obtain ⟨vs5, H1, I5, r5, ⟨z, ev⟩, eH⟩ := hq5
  rw [eH] at I5
  have hu := (I5.pin (h2.objs.size, PySem.W.kxs_mw "ValueError.__init__" a) (by simp)).1
  refine ⟨hu, ?_⟩
  obtain ⟨hp5, g5, d5, t5, os5⟩ := s5
  obtain ⟨t6, hoe5⟩ := exo_at I5.hok ha
  have hC5 := I5.kIn _ _ hC
  have hz5 : us.length ≤ sizeLine := by
    rw [← Paired.length r5, ev, sizeLine_eq]
    exact Nat.le_trans (Nat.le_refl 1) (by omega)
  refine wpAny_call (codeAny_of_tree ?_)
  show wpAny _ _ (callAny (.ref h2.objs.size) ⟨us, []⟩) _ _ _
  simp only [callAny]
  refine wpAny_bind (wpAny_load hu ?_)
  simp only [PySem.W.kxs_mw, show (Value.type "method-wrapper" == Value.type "method" || Value.type "method-wrapper" == Value.type "builtin_function_or_method" || Value.type "method-wrapper" == Value.type "method-wrapper") = true by decide, if_true]
  refine PySem.W.KFB.if_so (by decide) ?_
  refine wpAny_bind (PySem.W.check_bound_init PySem.F.excBase_ValueError.toExcCallFacts hC5 hoe5 rfl ?_)
  refine wpAny_bind (wpAny_pure (wpAny_pure ?_))
  refine ⟨plainId_quiet PySem.F.excBase_ValueError.init.plain _, codeAny_builtin PySem.F.excBase_ValueError.initEntry ?_⟩
  refine PySem.W.exc_init_tree (cls := .ref C) (t0 := t6) (dv := none) (c2 := .none) (c3 := .none) (b4 := .bool false) hoe5 hz5 (fun h6 k6 e6 _ => ?_)
  have J0 := I5.write (h' := h6) (t' := t5) (x := a) (e := a) (o := exo a C none) (by rw [ha]; exact True.intro) (.inl rfl) k6 ⟨_, e6⟩ (exo_ok e6)
  have eu : upd H a (exo a C none) = H := by
    funext b
    by_cases hb : b = a
    · rw [hb, upd_same, ha]
    · rw [upd_ne hb]
  rw [eu] at J0
  have J := J0.pins_of (pins' := []) (fun p hp => by cases hp)
  have ps : PSs (supCxH P w K mg base f qual fI cda cc A outer s H p) [.Assign [.Attribute (.Name "self" p5) f p6] (.Name f p7) p8] _ := pss_one (ps_ost (pe_var (i := 0) (x := "self") rfl (.inl rfl) (by decide) (by decide)) (pe_var (i := 1) (x := f) rfl (.inl l_f) hfd hfcd))
  show PySem.wpAt _ _ _ (execs [.Assign [.Attribute (.Name "self" p5) f p6] (.Name f p7) p8] _) _ _ _
  refine wpAt_of_wpAny (wpAny_mono (ps.run [] _ _ H { nx := fun _ H' => Q .non H', rt := fun _ _ => False } J ⟨v, rfl, .ref a, rfl, a, C, rfl, T.oex, T.noF, .inl ⟨ha, fun dx n ne => q dx n ne⟩⟩) (fun fl s' hs => ?_) (fun _ _ z => z.elim))
  cases fl with
  | next =>
    obtain ⟨σ', H', J', q'⟩ := hs
    exact ⟨.non, H', J'.os, J'.bare, J'.base, J'.hok, rfl, q'⟩
  | ret u =>
    obtain ⟨_, _, _, _, _, z⟩ := hs
    exact z.elim
  | brk =>
    obtain ⟨_, _, _, z⟩ := hs
    exact z.elim
  | cont =>
    obtain ⟨_, _, _, z⟩ := hs
    exact z.elim
end
/-- an own error class raised while an exception is handled -/
structure ErrH (P : Program) (w : World) (K : PySem.W.Frag) (mg : Str → Option Value) (base : Heap) (x f : Str) (C : Addr) (Okv : V → Prop) : Prop where
  oex : OexC K C
  mgC : mg x = some (.ref C)
  ini : ∃ (fI : Addr) (fd : FuncData), FnH P w K mg base CX0 1 fI fd ["self", f] (spSup C f Okv) ∧ Binds K fd ["self", f] [] ∧ PySem.W.findIn K (.ref C) "__init__" = some (some (.ref fI)) ∧ PySem.W.typeIn K (.ref fI) = some (.type "function")
theorem pmk5_errH {X : Cx} {x f : Str} {C : Addr} {Okv : V → Prop} {e : Expr} {te : TE} {p pos : Pos} (T : ErrH X.prog X.w X.K X.mg X.base x f C Okv) (hr : RoomH 2 X.A) (hc : HotC X) (hg : Gl X x) (he : PE X e te) (hs : starEach [e] X.env = [(false, eval e X.env)] := by rfl)
    (hdb : (x == ("__debug__" : Str)) = false := by decide) : PMk5 X (.Call (.Name x p) [e] [] pos) (tMkO C (spSup C f Okv) [] (tCons te tNil)) := by
  obtain ⟨fI, fd, F1, hb, iC, tI⟩ := T.ini
  exact pmk5_oexH T.oex iC tI F1 hr hc hb (fun _ _ _ _ _ _ _ z => z.elim) hg T.mgC (pa_cons he pa_nil hs) hdb hs rfl
end Pw

set_option Elab.async false
set_option linter.all false
set_option maxRecDepth 100000
set_option maxHeartbeats 4000000
namespace K46
open PySem PySem.Spec PyProof.Rows L2 Pw TL
def topS (i : Nat) : Stmt := PySem.Challenge.pw_pulsewright_k46_rules_as_texts.main.body.getD i (.Pass ⟨0, 0, 0, 0⟩)
section
variable {P : Program} {w : World} {K : PySem.W.Frag} {mg : Str → Option Value} {base : Heap}
theorem same_new {H : Hp} {p : Addr} {o : HO} (h : H p = none) : Same H (upd H p o) := fun b x e => by
  rw [upd_ne (ne_of_none e h)]
  exact e
/-! first_stranger -/
abbrev sFS : Stmt := topS 6
theorem scFS : FnScope ["text", "at", "sign"] ["text"] (defScope sFS) := ⟨rfl, rfl, rfl, by decide +kernel, rfl, by decide +kernel, by decide +kernel⟩
def vOpt : Option Nat → V
  | none => .non
  | some i => .int (i : Nat)
def spFS : Sp := fun vs H Q _ => ∃ x : Str, vs = [.str x] ∧ ∀ H', Same H H' → Q (vOpt (strange (tl x))) H'
theorem one_sign (c : Nat) : (V.str ⟨#[c]⟩ = V.str "0" ↔ c = 48) ∧ (V.str ⟨#[c]⟩ = V.str "1" ↔ c = 49) := by
  constructor
  · constructor
    · intro h
      have h1 : (⟨#[c]⟩ : Str) = "0" := V.str.inj h
      have h2 : [c] = [48] := congrArg tl h1
      exact (List.cons.inj h2).1
    · intro h
      subst h
      rfl
  · constructor
    · intro h
      have h1 : (⟨#[c]⟩ : Str) = "1" := V.str.inj h
      have h2 : [c] = [49] := congrArg tl h1
      exact (List.cons.inj h2).1
    · intro h
      subst h
      rfl
theorem ok_fs {f : Addr} {fd : FuncData} {k : Nat} (F : Fun K "first_stranger" "first_stranger" sFS f fd) (me : mg "enumerate" = none) : FnOk P w K mg base CX0 (k + 1) f fd ["text"] spFS := by
  refine F.ok scFS (fun vs H Q E h => ?_) (fun cdv A outer s H vs Q E hr h => ?_)
  · obtain ⟨x, rfl, _⟩ := h
    rfl
  · obtain ⟨x, rfl, q⟩ := h
    refine ⟨_, pss_cons (ps_for PassesOwn.never rfl (pi_enumS (by rfl) me (pa_cons (pv 0) pa_nil)) (pg_tup rfl (pgs_cons (pg_name (i := 1) scFS.nd rfl (.inl rfl)) (pgs_cons (pg_name (i := 2) scFS.nd rfl (.inl rfl)) pgs_nil)))
        (pss_one (ps_if (PW.pt (pw_and (pt_cmpR op_ne (pv 2) pe_str (nomark _)) (pw_and1 (pt_cmpR op_ne (pv 2) pe_str (nomark _))))) (pss_one (ps_ret (pv 1))) pss_nil)))
      (pss_one (ps_ret pe_non)), ?_⟩
    refine ⟨.str x, rfl, x, rfl, for_enumS (x := x) (fun i σ H1 => (∃ y1 y2, σ = [some (.str x), y1, y2]) ∧ Pure ((tl x).take i) ∧ Same H H1) ⟨⟨none, none, rfl⟩, fun c hc => by simp at hc, Same.refl H⟩ ?_ ?_⟩
    · rintro i c σ H1 T hc ⟨⟨y1, y2, rfl⟩, hp, sm⟩ nT
      have hc' : (tl x)[i]? = some c := by rw [← hc]; exact Array.getElem?_toList
      have sT : Same H (upd H1 T (.tup [.int (i : Nat), .str ⟨#[c]⟩])) := sm.trans (same_new nT)
      refine ⟨T, _, rfl, .inl (.inl upd_same), rfl, _, _, rfl, _, _, rfl, rfl, ?_⟩
      refine ⟨_, rfl, rfl, _, rfl, ?_⟩
      by_cases h0 : c = 48
      · rw [decide_eq_true ((one_sign c).1.mpr h0)]
        refine iteF (iteF ⟨⟨_, _, rfl⟩, pure_more hc' hp (by simp [bad, h0]), sT⟩)
      · rw [decide_eq_false (fun z => h0 ((one_sign c).1.mp z))]
        refine iteT ⟨_, rfl, rfl, _, rfl, ?_⟩
        by_cases h1 : c = 49
        · rw [decide_eq_true ((one_sign c).2.mpr h1)]
          exact iteF ⟨⟨_, _, rfl⟩, pure_more hc' hp (by simp [bad, h1]), sT⟩
        · rw [decide_eq_false (fun z => h1 ((one_sign c).2.mp z))]
          refine iteT ⟨_, rfl, ?_⟩
          have e := strange_take hc' hp (by simp [bad, h0, h1])
          have := q _ sT
          rw [e] at this
          exact this
    · rintro σ H1 ⟨⟨y1, y2, rfl⟩, hp, sm⟩
      have hl : (tl x).take x.cps.size = tl x := List.take_of_length_le (by simp)
      rw [hl] at hp
      have := q H1 sm
      rw [strange_none hp] at this
      exact this
end
end K46

set_option Elab.async false
set_option linter.all false
set_option maxRecDepth 100000
set_option maxHeartbeats 4000000
namespace K46
open PySem PySem.Spec PyProof.Rows L2 Pw TL
section
/-- a module's number -/
def Num (mg : Str → Option Value) (x : Str) (n : Int) : Prop := ∃ u, mg x = some u ∧ RelV (.int n) u
theorem same_put {H H1 : Hp} {p : Addr} {o : HO} (s : Same H H1) (n : H p = none) : Same H (upd H1 p o) := fun b x e => by
  rw [upd_ne (ne_of_none e n)]
  exact s b x e
end
section
variable {P : Program} {w : World} {K : PySem.W.Frag} {mg : Str → Option Value} {base : Heap}
/-- the draw's list at p, its script at q -/
def Dr (p q : Addr) (ns : List Int) (H : Hp) : Prop := H q = some (.lst (ns.map V.int)) ∧ ∃ a b c : Int, H p = some (.lst [.ref q, .int a, .int b, .int c]) ∧ 0 ≤ a ∧ 0 ≤ b ∧ 0 ≤ c ∧ c < 2147483647
/-- all but what stands at p is kept -/
def SameX (p : Addr) (H H' : Hp) : Prop := ∀ b o, H b = some o → b ≠ p → H' b = some o
theorem SameX.refl (p : Addr) (H : Hp) : SameX p H H := fun _ _ e _ => e
theorem SameX.trans {p : Addr} {H H1 H2 : Hp} (a : SameX p H H1) (b : SameX p H1 H2) : SameX p H H2 := fun c o e n => b c o (a c o e n) n
theorem SameX.of {p : Addr} {H H1 : Hp} (s : Same H H1) : SameX p H H1 := fun b o e _ => s b o e
theorem SameX.put {p : Addr} {H H1 : Hp} {o : HO} (s : SameX p H H1) : SameX p H (upd H1 p o) := fun b x e n => by
  rw [upd_ne n]
  exact s b x e n
theorem SameX.new {p d : Addr} {H H1 : Hp} {o : HO} (s : SameX p H H1) (n : H1 d = none) : SameX p H (upd H1 d o) := fun b x e ne => by
  have h1 := s b x e ne
  rw [upd_ne (ne_of_none h1 n)]
  exact h1
theorem Dr.ne {p q : Addr} {ns : List Int} {H : Hp} (h : Dr p q ns H) : q ≠ p := by
  obtain ⟨h1, a, b, c, h2, _⟩ := h
  intro e
  rw [e, h2] at h1
  have e2 : [V.ref q, .int a, .int b, .int c] = ns.map V.int := HO.lst.inj (Option.some.inj h1)
  cases ns with
  | nil => simp at e2
  | cons n r => simp at e2
theorem Dr.same {p q : Addr} {ns : List Int} {H H' : Hp} (h : Dr p q ns H) (s : Same H H') : Dr p q ns H' := ⟨s _ _ h.1, let ⟨a, b, c, e, r⟩ := h.2; ⟨a, b, c, s _ _ e, r⟩⟩
theorem Dr.put {p q : Addr} {ns : List Int} {H : Hp} {a b c : Int} (h : H q = some (.lst (ns.map V.int))) (n : q ≠ p) (ha : 0 ≤ a) (hb : 0 ≤ b) (hc : 0 ≤ c) (hc2 : c < 2147483647) : Dr p q ns (upd H p (.lst [.ref q, .int a, .int b, .int c])) :=
  ⟨by rw [upd_ne n]; exact h, a, b, c, upd_same, ha, hb, hc, hc2⟩
/-! _law_open -/
abbrev sOP : Stmt := topS 35
theorem scOP : FnScope ["_law_script"] ["_law_script"] (defScope sOP) := ⟨rfl, rfl, rfl, by decide +kernel, rfl, by decide +kernel, by decide +kernel⟩
def spOP (K : PySem.W.Frag) : Sp := fun vs H Q _ => ∃ (a : Addr) (ns : List Int), vs = [.ref a] ∧ SqL K H a (ns.map V.int) ∧ ∀ H' p q ms, Same H H' → H p = none → Dr p q ms H' → Q (.ref p) H'
theorem ok_op {f : Addr} {fd : FuncData} {k : Nat} (F : Fun K "_law_open" "_law_open" sOP f fd) (ml : mg "list" = none) : FnOk P w K mg base CX0 (k + 1) f fd ["_law_script"] (spOP K) := by
  refine F.ok scOP (fun vs H Q E h => ?_) (fun cdv A outer s H vs Q E hr h => ?_)
  · obtain ⟨a, ns, rfl, _⟩ := h
    rfl
  · obtain ⟨a, ns, rfl, hS, q⟩ := h
    refine ⟨_, pss_one (ps_ret (pe_lst (pa_cons (pe_callTy call_list_of (by rfl) ml (by decide +kernel) (pa_cons (pe_slice sl_list (pv 0) po_none (po_some pe_int)) pa_nil)) (pa_cons pe_int (pa_cons pe_int (pa_cons pe_int pa_nil)))))), ?_⟩
    refine ⟨.ref a, rfl, 63, rfl, a, _, rfl, hS, fun p1 n1 => ?_⟩
    refine ⟨p1, _, rfl, .inl (SqL.of upd_same), fun q1 n2 => ⟨by show 4 ≤ sizeLine; decide, fun p n3 => ?_⟩⟩
    have e2 : q1 ≠ p := ne_of_none upd_same n3
    have ec : cutV (ns.map V.int) none (some 63) = (ns.take 63).map V.int := by
      unfold cutV
      rw [show HT.sIx (ns.map V.int).length (ns.map V.int).length (some 63) = min 63 (ns.map V.int).length from HT.sIx_nat _ _ 63]
      show List.take (min 63 (ns.map V.int).length - 0) (ns.map V.int) = _
      rw [Nat.sub_zero, List.map_take]
      exact (List.take_eq_take_min).symm
    have s2 : Same H (upd (upd H p1 (.lst (cutV (ns.map V.int) none (some 63)))) q1 (.lst (cutV (ns.map V.int) none (some 63)))) := (same_new n1).trans (same_new n2)
    refine q _ p q1 (ns.take 63) (s2.trans (same_new n3)) (s2.free n3) ⟨?_, 0, 0, 37, upd_same, by decide, by decide, by decide, by decide⟩
    rw [upd_ne e2, upd_same, ec]
/-! _law_pull -/
abbrev sPU : Stmt := topS 36
theorem scPU : FnScope ["_law_draw", "_law_total_of", "_law_cell", "_law_got", "_law_seed"] ["_law_draw", "_law_total_of"] (defScope sPU) := ⟨rfl, rfl, rfl, by decide +kernel, rfl, by decide +kernel, by decide +kernel⟩
def spPU : Sp := fun vs H Q _ => ∃ (p q : Addr) (ns : List Int) (n : Int), vs = [.ref p, .int n] ∧ 0 < n ∧ n < 1073741824 ∧ Dr p q ns H ∧ ∀ v H', 0 ≤ v → v < n → SameX p H H' → Dr p q ns H' → Q (.int v) H'
/-- behind the drawing of a cell: the last two ways -/
theorem ok_pu {f : Addr} {fd : FuncData} {k : Nat} (F : Fun K "_law_pull" "_law_pull" sPU f fd) (ml : mg "len" = none) : FnOk P w K mg base CX0 (k + 1) f fd ["_law_draw", "_law_total_of"] spPU := by
  refine F.ok scPU (fun vs H Q E h => ?_) (fun cdv A outer s H vs Q E hr h => ?_)
  · obtain ⟨p, q, ns, n, rfl, _⟩ := h
    rfl
  · obtain ⟨p, q, ns, n, rfl, n0, n1, hD, k⟩ := h
    refine ⟨_, C8.pss_cut (ps_if (PW.pt (pw_and (pt_cmpR op_lt (pe_ix ix_list (pv 0) pe_int (fun _ _ => rfl)) (pv 1) (nomark _))
          (pw_and1 (pt_cmpR op_lt (pe_ix ix_list (pv 0) pe_int (fun _ _ => rfl)) (pe_callB call_len_seq (by rfl) ml PySem.boot_len (pa_cons (pe_ix ix_list (pv 0) pe_int (fun _ _ => rfl)) pa_nil)) (nomark _)))))
        (pss_cons (ps_set (i := 2) scPU.nd rfl (.inl rfl) (pe_ix ix_list (pe_ix ix_list (pv 0) pe_int (fun _ _ => rfl)) (pe_ix ix_list (pv 0) pe_int (fun _ _ => rfl)) (fun _ _ => rfl)))
        (pss_cons (ps_asg (pe_op op_add (pe_ix ix_list (pv 0) pe_int (fun _ _ => rfl)) pe_int) (pg_sub (pv 0) pe_int set_list))
        (pss_cons (ps_asg pe_int (pg_sub (pv 0) pe_int set_list))
        (pss_one (ps_if (pt_cmpR op_ge (pv 2) (pe_op op_pow pe_int pe_int) (nomark _)) (pss_one (ps_asg (pv 2) (pg_sub (pv 0) pe_int set_list)))
          (pss_one (ps_asg (pe_op op_modN (pe_op op_add (pe_op op_add (pe_op op_mul (pe_ix ix_list (pv 0) pe_int (fun _ _ => rfl)) pe_int) (pe_op op_mul (pe_op op_modN (pv 2) pe_int) pe_int)) pe_int) pe_int) (pg_sub (pv 0) pe_int set_list)))))))) pss_nil)
      (pss_cons (ps_if (pt_cmpR op_ge (pe_ix ix_list (pv 0) pe_int (fun _ _ => rfl)) (pv 1) (nomark _))
        (pss_cons (ps_set (i := 3) scPU.nd rfl (.inl rfl) (pe_op op_modN (pe_ix ix_list (pv 0) pe_int (fun _ _ => rfl)) (pv 1)))
        (pss_cons (ps_asg (pe_op op_fdivN (pe_ix ix_list (pv 0) pe_int (fun _ _ => rfl)) (pv 1)) (pg_sub (pv 0) pe_int set_list)) (pss_one (ps_ret (pv 3))))) pss_nil)
      (pss_cons (ps_set (i := 4) scPU.nd rfl (.inl rfl) (pe_ix ix_list (pv 0) pe_int (fun _ _ => rfl)))
      (pss_cons (ps_asg (pe_op op_modN (pe_op op_add (pe_op op_add (pe_op op_mul (pe_op op_modN (pe_op op_mul (pv 4) (pv 4)) pe_int) pe_int) (pe_op op_mul (pv 4) pe_int)) pe_int) pe_int) (pg_sub (pv 0) pe_int set_list))
      (pss_one (ps_ret (pe_op op_modN (pe_op op_add (pe_op op_fdivN (pe_ix ix_list (pv 0) pe_int (fun _ _ => rfl)) pe_int) (pe_op op_mul (pe_op op_modN (pe_ix ix_list (pv 0) pe_int (fun _ _ => rfl)) pe_int) pe_int)) (pv 1))))))), ?_⟩
    have nq := hD.ne
    refine ⟨fun σ H1 => (∃ y, σ = [some (.ref p), some (.int n), y, none, none]) ∧ SameX p H H1 ∧ Dr p q ns H1, ?_, ?_⟩
    · obtain ⟨hq, a, b, c, hp, ha, hb, hc, hc2⟩ := id hD
      refine ⟨.ref p, rfl, p, _, 2, .int b, rfl, rfl, SqL.of hp, rfl, _, rfl, b, n, rfl, rfl, _, rfl, ?_⟩
      by_cases hbn : b < n
      · rw [decide_eq_true hbn]
        refine iteT ⟨.ref p, rfl, p, _, 1, .int a, rfl, rfl, SqL.of hp, rfl, .ref p, rfl, p, _, 0, .ref q, rfl, rfl, SqL.of hp, rfl, q, _, rfl, .inl (SqL.of hq), a, _, rfl, rfl, _, rfl, ?_⟩
        by_cases hal : a < ((ns.map V.int).length : Int)
        · rw [decide_eq_true hal]
          have hi : a.toNat < ns.length := by
            rw [List.length_map] at hal
            omega
          have ea : a = ((a.toNat : Nat) : Int) := by omega
          have hz : atI (ns.map V.int) a = some (.int ns[a.toNat]) := by
            refine at_of ea ?_
            rw [List.getElem?_map, List.getElem?_eq_getElem hi]
            rfl
          refine iteT ⟨.ref p, rfl, p, _, 0, .ref q, rfl, rfl, SqL.of hp, rfl, .ref p, rfl, p, _, 1, .int a, rfl, rfl, SqL.of hp, rfl, q, _, a, .int ns[a.toNat], rfl, rfl, SqL.of hq, hz, ?_⟩
          refine ⟨.ref p, rfl, p, _, 1, .int a, rfl, rfl, SqL.of hp, rfl, a, 1, rfl, rfl, .ref p, rfl, p, _, 1, 1, rfl, rfl, hp, rfl, ?_⟩
          have hp1 : upd H p (.lst [.ref q, .int (a + 1), .int b, .int c]) p = some (.lst [.ref q, .int (a + 1), .int b, .int c]) := upd_same
          refine ⟨.ref p, rfl, p, _, 2, 2, rfl, rfl, hp1, rfl, ?_⟩
          have hp2 : upd (upd H p (.lst [.ref q, .int (a + 1), .int b, .int c])) p (.lst [.ref q, .int (a + 1), .int 0, .int c]) p = some (.lst [.ref q, .int (a + 1), .int 0, .int c]) := upd_same
          have hq2 : upd (upd H p (.lst [.ref q, .int (a + 1), .int b, .int c])) p (.lst [.ref q, .int (a + 1), .int 0, .int c]) q = some (.lst (ns.map V.int)) := by rw [upd_ne nq, upd_ne nq]; exact hq
          refine ⟨_, rfl, 10, 18, rfl, rfl, ⟨by decide, by decide, by decide⟩, ns[a.toNat], 10 ^ 18, rfl, rfl, _, rfl, ?_⟩
          refine ite2 (fun hge => ?_) (fun hge => ?_)
          · have hge : (10 : Int) ^ 18 ≤ ns[a.toNat] := of_decide_eq_true hge
            refine ⟨_, rfl, .ref p, rfl, p, _, 2, 2, rfl, rfl, hp2, rfl, ⟨some (.int ns[a.toNat]), rfl⟩, ?_, ?_⟩
            · exact ((SameX.refl p H).put.put).put
            · exact Dr.put hq2 nq (by omega) (by omega) hc hc2
          · refine ⟨.ref p, rfl, p, _, 3, .int c, rfl, rfl, SqL.of hp2, rfl, c, 40692, rfl, rfl, .inr ⟨by decide, by decide⟩, _, rfl, _, 2147483629, rfl, rfl, (show (2147483629 : Int) ≠ 0 by decide), _, 69069, rfl, rfl, .inr ⟨by decide, by decide⟩, _, _, rfl, rfl, _, 7919, rfl, rfl, _, 2147483647, rfl, rfl, (show (2147483647 : Int) ≠ 0 by decide), .ref p, rfl, p, _, 3, 3, rfl, rfl, hp2, rfl, ⟨some (.int ns[a.toNat]), rfl⟩, ?_, ?_⟩
            · exact ((SameX.refl p H).put.put).put
            · refine Dr.put hq2 nq (by omega) (by omega) ?_ ?_
              · exact Int.fmod_nonneg_of_pos _ (by decide)
              · exact Int.fmod_lt_of_pos _ (by decide)
        · rw [decide_eq_false hal]
          exact iteF ⟨⟨none, rfl⟩, SameX.refl p H, hD⟩
      · rw [decide_eq_false hbn]
        exact iteF (iteF ⟨⟨none, rfl⟩, SameX.refl p H, hD⟩)
    · rintro σ H1 ⟨⟨y, rfl⟩, sx, hD1⟩
      obtain ⟨hq, a, b, c, hp, ha, hb, hc, hc2⟩ := id hD1
      refine ⟨.ref p, rfl, p, _, 2, .int b, rfl, rfl, SqL.of hp, rfl, _, rfl, b, n, rfl, rfl, _, rfl, ?_⟩
      refine ite2 (fun hge => ?_) (fun hge => ?_)
      · refine ⟨.ref p, rfl, p, _, 2, .int b, rfl, rfl, SqL.of hp, rfl, _, rfl, b, n, rfl, rfl, by omega, ?_⟩
        refine ⟨.ref p, rfl, p, _, 2, .int b, rfl, rfl, SqL.of hp, rfl, _, rfl, b, n, rfl, rfl, ⟨by omega, by omega⟩, .ref p, rfl, p, _, 2, 2, rfl, rfl, hp, rfl, _, rfl, ?_⟩
        refine k _ _ (Int.fmod_nonneg_of_pos _ n0) (Int.fmod_lt_of_pos _ n0) sx.put (Dr.put hq nq ha ?_ hc hc2)
        rw [Int.fdiv_eq_ediv_of_nonneg _ (by omega)]
        exact Int.ediv_nonneg hb (by omega)
      · refine ⟨.ref p, rfl, p, _, 3, .int c, rfl, rfl, SqL.of hp, rfl, ?_⟩
        refine ⟨_, rfl, _, rfl, c, c, rfl, rfl, .inl ⟨by omega, by omega⟩, _, 2147483587, rfl, rfl, (show (2147483587 : Int) ≠ 0 by decide), _, 3, rfl, rfl, .inr ⟨by decide, by decide⟩, _, rfl, c, 48271, rfl, rfl, .inr ⟨by decide, by decide⟩, _, _, rfl, rfl, _, 1013904223, rfl, rfl, _, 2147483647, rfl, rfl, (show (2147483647 : Int) ≠ 0 by decide), .ref p, rfl, p, _, 3, 3, rfl, rfl, hp, rfl, ?_⟩
        refine ⟨.ref p, rfl, p, _, 3, _, rfl, rfl, SqL.of upd_same, rfl, _, 61, rfl, rfl, ⟨by decide, by decide⟩, .ref p, rfl, p, _, 3, _, rfl, rfl, SqL.of upd_same, rfl, _, 8209, rfl, rfl, (show (8209 : Int) ≠ 0 by decide), _, 29, rfl, rfl, .inr ⟨by decide, by decide⟩, _, _, rfl, rfl, _, rfl, _, n, rfl, rfl, by omega, ?_⟩
        exact k _ _ (Int.fmod_nonneg_of_pos _ n0) (Int.fmod_lt_of_pos _ n0) sx.put (Dr.put hq nq ha hb (Int.fmod_nonneg_of_pos _ (by decide)) (Int.fmod_lt_of_pos _ (by decide)))
end
section
variable {P : Program} {w : World} {K : PySem.W.Frag} {mg : Str → Option Value} {base : Heap}
/-- pull as its callers have it -/
structure PUOk (P : Program) (w : World) (K : PySem.W.Frag) (mg : Str → Option Value) (base : Heap) : Prop where
  ex : ∃ (f : Addr) (fd : FuncData), FnOk P w K mg base CX0 1 f fd ["_law_draw", "_law_total_of"] spPU ∧ mg "_law_pull" = some (.ref f) ∧ PySem.W.keepIn K (.ref f) = true ∧ Binds K fd ["_law_draw", "_law_total_of"] []
/-! _law_row -/
abbrev sRO : Stmt := topS 39
theorem scRO : FnScope ["_law_draw", "_law_many", "_law_k"] ["_law_draw", "_law_many"] (defScope sRO) := ⟨rfl, rfl, rfl, by decide +kernel, rfl, by decide +kernel, by decide +kernel⟩
def spRO : Sp := fun vs H Q _ => ∃ (p q : Addr) (ns : List Int) (n : Nat), vs = [.ref p, .int (n : Nat)] ∧ n ≤ 1000 ∧ Dr p q ns H ∧ ∀ (x : Str) H', Pure (tl x) → (tl x).length = n → SameX p H H' → Dr p q ns H' → Q (.str x) H'
/-- texts of one sign each, 0 or 1 -/
def Signs (l : List Nat) : List V := l.map fun c => V.str ⟨#[c]⟩
theorem join_signs : ∀ l : List Nat, tl (Txt.join Str.empty (l.map fun c => (⟨#[c]⟩ : Str))) = l := by
  intro l
  rw [join_eq]
  have gen : ∀ l : List Nat, tl (Str.join Str.empty (l.map fun c => (⟨#[c]⟩ : Str))) = l := by
    intro l
    induction l with
    | nil => rfl
    | cons c r ih =>
      cases r with
      | nil => rfl
      | cons d r =>
        have e : Str.join Str.empty ((c :: d :: r).map fun c => (⟨#[c]⟩ : Str)) = (⟨#[c]⟩ : Str) ++ Str.empty ++ Str.join Str.empty ((d :: r).map fun c => (⟨#[c]⟩ : Str)) := by
          first
            | rfl
            | simp [Str.join]
        rw [e, tl_append, tl_append, ih]
        rfl
  exact gen l
theorem ok_ro {f : Addr} {fd : FuncData} (F : Fun K "_law_row" "_law_row" sRO f fd) (R : PUOk P w K mg base) (mr : mg "range" = none) : FnOk P w K mg base CX0 2 f fd ["_law_draw", "_law_many"] spRO := by
  obtain ⟨fR, fdR, G, gm, gk, gb⟩ := R.ex
  refine F.ok scRO (fun vs H Q E h => ?_) (fun cdv A outer s H vs Q E hr h => ?_)
  · obtain ⟨p, q, ns, n, rfl, _⟩ := h
    rfl
  · obtain ⟨p, q, ns, n, rfl, hn, hD, k⟩ := h
    refine ⟨_, pss_one (ps_ret (pe_join pe_str (pe_lc (own := [("_law_k", 2)]) (g := gName 2) (tt := tYes) rfl scRO.nd (pi_range1 rfl mr (pa_cons (pv 1) pa_nil))
        (blkOk_by (N := ["_law_draw", "_law_many", "_law_k"]) (sc := defScope sRO) (by decide +kernel)) (fun _ _ _ _ _ => pg_name (i := 2) scRO.nd rfl (Or.inl rfl)) (fun _ _ _ _ _ => pts_nil)
        (fun _ _ _ _ _ => pe_ix ix_str pe_str (pe_call G hr rfl gm gk gb .nil pass0 (pa_cons (pv 0) (pa_cons pe_int pa_nil))) (fun _ _ => rfl))))), ?_⟩
    have pD : ∀ {D : Addr}, H D = none → D ≠ p := fun {D} nD e => by
      obtain ⟨_, a, b, c, hp, _⟩ := hD
      rw [e, hp] at nD
      cases nD
    refine ⟨⟨_, rfl⟩, _, rfl, (n : Int), rfl, by omega, by omega, fun D nD => ?_⟩
    refine lc_range (lo := 0) (n := n) (fun i H2 => ∃ l : List Nat, Pw.Pure l ∧ l.length = i ∧ SameX p H H2 ∧ Dr p q ns H2 ∧ H2 D = some (.lst (Signs l)))
      ⟨[], (fun c hc => by cases hc), rfl, (SameX.refl p H).new nD, hD.same (same_new nD), upd_same⟩ (fun i H2 hi h => ?_) (fun H2 h => ?_)
    · obtain ⟨l, hl, hll, sx, hD2, h2⟩ := h
      refine ⟨rfl, .ref p, rfl, p, q, ns, 2, rfl, by decide, by decide, hD2, fun v H3 h0 h1 sx3 hD3 => ?_⟩
      have h3 : H3 D = some (.lst (Signs l)) := sx3 _ _ h2 (pD nD)
      have fin : ∀ c : Nat, (c = 48 ∨ c = 49) → ∃ acc, H3 D = some (.lst acc) ∧ acc.length < sizeLine ∧ ∃ l : List Nat, Pw.Pure l ∧ l.length = i + 1 ∧ SameX p H (upd H3 D (.lst (acc ++ [.str ⟨#[c]⟩]))) ∧ Dr p q ns (upd H3 D (.lst (acc ++ [.str ⟨#[c]⟩]))) ∧ (upd H3 D (.lst (acc ++ [.str ⟨#[c]⟩]))) D = some (.lst (Signs l)) := fun c hc => by
        refine ⟨_, h3, ?_, l ++ [c], ?_, ?_, ?_, ?_, ?_⟩
        · unfold Signs
          rw [List.length_map]
          exact small1000 (by omega)
        · intro d hd
          rcases List.mem_append.mp hd with z | z
          · exact hl d z
          · obtain rfl : d = c := by simpa using z
            exact hc
        · rw [List.length_append, hll]
          rfl
        · intro b o e ne
          rw [upd_ne (ne_of_none e nD)]
          exact sx3 b o (sx b o e ne) ne
        · obtain ⟨e1, a, b, c, e2, r⟩ := hD3
          have n1 : q ≠ D := ne_of_none hD.1 nD
          exact ⟨by rw [upd_ne n1]; exact e1, a, b, c, by rw [upd_ne (Ne.symm (pD nD))]; exact e2, r⟩
        · rw [upd_same]
          unfold Signs
          rw [List.map_append]
          rfl
      have hv : v = 0 ∨ v = 1 := by omega
      rcases hv with rfl | rfl
      · exact ⟨"01", 0, 48, rfl, rfl, by decide, rfl, fin 48 (.inl rfl)⟩
      · exact ⟨"01", 1, 49, rfl, rfl, by decide, rfl, fin 49 (.inr rfl)⟩
    · obtain ⟨l, hl, hll, sx, hD2, h2⟩ := h
      have e2 : Signs l = (l.map fun c => (⟨#[c]⟩ : Str)).map V.str := by
        unfold Signs
        rw [List.map_map]
        rfl
      rw [e2] at h2
      refine ⟨_, D, (l.map fun c => (⟨#[c]⟩ : Str)), rfl, rfl, .inl (SqL.of h2), ?_, ?_⟩
      · have e3 : ((l.map fun c => (⟨#[c]⟩ : Str)).map (·.length)).sum = l.length := by
          rw [List.map_map]
          clear e2 h2 hll hl
          induction l with
          | nil => rfl
          | cons c r ih =>
            rw [List.map_cons, List.sum_cons, ih, List.length_cons, Nat.add_comm]
            rfl
        rw [e3]
        show l.length + (l.map _).length * 0 ≤ _
        omega
      · refine k _ H2 ?_ ?_ sx hD2
        · rw [show Str.ofString "" = Str.empty from rfl, join_signs]
          exact hl
        · rw [show Str.ofString "" = Str.empty from rfl, join_signs]
          exact hll
end
section
variable {P : Program} {w : World} {K : PySem.W.Frag} {mg : Str → Option Value} {base : Heap}
/-- built-in names that the law reads -/
structure BN (mg : Str → Option Value) : Prop where
  isi : mg "isinstance" = none
  int : mg "int" = none
  bool : mg "bool" = none
  str : mg "str" = none
  tup : mg "tuple" = none
  lst : mg "list" = none
  len : mg "len" = none
  all : mg "all" = none
  rng : mg "range" = none
  max : mg "max" = none
  min : mg "min" = none
  abs : mg "abs" = none
  enu : mg "enumerate" = none
/-! _law_num -/
abbrev sNU : Stmt := topS 37
theorem scNU : FnScope ["_law_found"] ["_law_found"] (defScope sNU) := ⟨rfl, rfl, rfl, by decide +kernel, rfl, by decide +kernel, by decide +kernel⟩
def spNU : Sp := fun vs H Q _ => ∃ i : Int, vs = [.int i] ∧ Q (.bl true) H
theorem ok_nu {f : Addr} {fd : FuncData} {k : Nat} (F : Fun K "_law_num" "_law_num" sNU f fd) (B : BN mg) : FnOk P w K mg base CX0 (k + 1) f fd ["_law_found"] spNU := by
  refine F.ok scNU (fun vs H Q E h => ?_) (fun cdv A outer s H vs Q E hr h => ?_)
  · obtain ⟨i, rfl, _⟩ := h
    rfl
  · obtain ⟨i, rfl, q⟩ := h
    refine ⟨_, pss_one (ps_ret (pe_and (pe_callB call_isi (by rfl) B.isi (by decide +kernel) (pa_cons (pv 0) (pa_cons (pe_bltn (v := .ty "int") (by rfl) B.int (by decide +kernel) rfl) pa_nil)))
      (pe_one (pe_not (pe_callB call_isi (by rfl) B.isi (by decide +kernel) (pa_cons (pv 0) (pa_cons (pe_bltn (v := .ty "bool") (by rfl) B.bool (by decide +kernel) rfl) pa_nil))))))), ?_⟩
    refine ⟨.int i, rfl, .int i, .ty "int", .type "int", .type "int", true, rfl, .ty _, .base (.int i), kit_ty (by decide +kernel), true, rfl, iteT ?_⟩
    exact ⟨.int i, rfl, .int i, .ty "bool", .type "int", .type "bool", false, rfl, .ty _, .base (.int i), kit_ty (by decide +kernel), false, rfl, q⟩
/-! _law_like -/
abbrev sLK : Stmt := topS 38
theorem scLK : FnScope ["_law_found", "_law_due", "_law_k"] ["_law_found", "_law_due"] (defScope sLK) := ⟨rfl, rfl, rfl, by decide +kernel, rfl, by decide +kernel, by decide +kernel⟩
/-- two values that are alike, at most n deep -/
inductive Lk (K : PySem.W.Frag) (H : Hp) : Nat → V → V → Prop
  | non {n : Nat} : Lk K H n .non .non
  | bl {n : Nat} (b : Bool) : Lk K H n (.bl b) (.bl b)
  | int {n : Nat} (i : Int) : Lk K H n (.int i) (.int i)
  | str {n : Nat} (x : Str) : Lk K H n (.str x) (.str x)
  | lst {n : Nat} {a b : Addr} {xs ys : List V} (ha : SqL K H a xs) (hb : SqL K H b ys) (hl : xs.length = ys.length) (hz : xs.length ≤ 16000) (hi : ∀ (i : Nat) (x y : V), xs[i]? = some x → ys[i]? = some y → Lk K H n x y) : Lk K H (n + 1) (.ref a) (.ref b)
  | tup {n : Nat} {a b : Addr} {xs ys : List V} (ha : SqT K H a xs) (hb : SqT K H b ys) (hl : xs.length = ys.length) (hz : xs.length ≤ 16000) (hi : ∀ (i : Nat) (x y : V), xs[i]? = some x → ys[i]? = some y → Lk K H n x y) : Lk K H (n + 1) (.ref a) (.ref b)
/-- both are alike -/
def spLK (K : PySem.W.Frag) : Nat → Sp
  | 0 => fun _ _ _ _ => False
  | n + 1 => fun vs H Q _ => ∃ (v u : V), vs = [v, u] ∧ Lk K H n v u ∧ ∀ H', Same H H' → Q (.bl true) H'
theorem ty_list {H : Hp} {a : Addr} {xs : List V} (h : SqL K H a xs) : TyX K H (.ref a) (.type "list") := by
  rcases h with (h | ⟨o, h⟩) | ⟨o, its, n, h1, h2, _⟩
  · exact .base (.lst h)
  · exact .base (.frz h)
  · exact .kList h1 h2
theorem ty_tup {H : Hp} {a : Addr} {xs : List V} (h : SqT K H a xs) : TyX K H (.ref a) (.type "tuple") := by
  rcases h with (h | ⟨o, h⟩) | ⟨o, its, n, h1, h2, _⟩
  · exact .base (.tup h)
  · exact .fTuple h
  · exact .kTuple h1 h2
theorem Same.tup {H H' : Hp} {a : Addr} {xs : List V} (s : Same H H') (h : SqT K H a xs) : SqT K H' a xs := by
  rcases h with (h | ⟨o, h⟩) | h
  · exact .inl (.inl (s _ _ h))
  · exact .inl (.inr ⟨o, s _ _ h⟩)
  · exact .inr h
theorem Lk.same {H H' : Hp} (s : Same H H') : ∀ {n : Nat} {v u : V}, Lk K H n v u → Lk K H' n v u := by
  intro n v u h
  induction h with
  | non => exact .non
  | bl b => exact .bl b
  | int i => exact .int i
  | str x => exact .str x
  | lst ha hb hl hz _ ih => exact .lst (s.seq ha) (s.seq hb) hl hz ih
  | tup ha hb hl hz _ ih => exact .tup (Same.tup s ha) (Same.tup s hb) hl hz ih
theorem all_true (n : Nat) : (List.replicate n true).all id = true := by
  induction n with
  | zero => rfl
  | succ n ih => rw [List.replicate_succ, List.all_cons, ih]; rfl
theorem ok_lk {f fN : Addr} {fd fdN : FuncData} (F : Fun K "_law_like" "_law_like" sLK f fd) (B : BN mg) (fm : mg "_law_like" = some (.ref f)) (fk : PySem.W.keepIn K (.ref f) = true) (fb : Binds K fd ["_law_found", "_law_due"] [])
    (GN : FnOk P w K mg base CX0 1 fN fdN ["_law_found"] spNU) (nm : mg "_law_num" = some (.ref fN)) (nk : PySem.W.keepIn K (.ref fN) = true) (nb : Binds K fdN ["_law_found"] []) : ∀ n, FnOk P w K mg base CX0 (n + 1) f fd ["_law_found", "_law_due"] (spLK K n)
  | 0 => ⟨fun _ _ _ _ h => h.elim, fun _ _ _ _ _ _ _ _ _ _ _ _ _ h => h.elim⟩
  | n + 1 => by
    have G := ok_lk F B fm fk fb GN nm nk nb n
    refine F.ok scLK (fun vs H Q E h => ?_) (fun cdv A outer s H vs Q E hr h => ?_)
    · obtain ⟨v, u, rfl, _⟩ := h
      rfl
    · obtain ⟨v, u, rfl, hv, q⟩ := h
      have hr1 : Room 1 _ := hr.mono (Nat.le_add_left _ _)
      refine ⟨_, pss_cons (ps_if (pt_cmpR op_isN (pv 1) pe_non (nomark _)) (pss_one (ps_ret (pe_cmpR op_isN (pv 0) pe_non (nomark _)))) pss_nil)
        (pss_cons (ps_if (pt_val (pe_callB call_isi (by rfl) B.isi (by decide +kernel) (pa_cons (pv 1) (pa_cons (pe_bltn (v := .ty "bool") (by rfl) B.bool (by decide +kernel) rfl) pa_nil))))
          (pss_one (ps_ret (pe_and (pe_callB call_isi (by rfl) B.isi (by decide +kernel) (pa_cons (pv 0) (pa_cons (pe_bltn (v := .ty "bool") (by rfl) B.bool (by decide +kernel) rfl) pa_nil))) (pe_one (pe_cmpR op_eq (pv 0) (pv 1) (nomark _)))))) pss_nil)
        (pss_cons (ps_if (pt_val (pe_callB call_isi (by rfl) B.isi (by decide +kernel) (pa_cons (pv 1) (pa_cons (pe_bltn (v := .ty "int") (by rfl) B.int (by decide +kernel) rfl) pa_nil))))
          (pss_one (ps_ret (pe_and (pe_call GN hr1 rfl nm nk nb .nil pass0 (pa_cons (pv 0) pa_nil)) (pe_one (pe_cmpR op_eq (pv 0) (pv 1) (nomark _)))))) pss_nil)
        (pss_cons (ps_if (pt_val (pe_callB call_isi (by rfl) B.isi (by decide +kernel) (pa_cons (pv 1) (pa_cons (pe_bltn (v := .ty "str") (by rfl) B.str (by decide +kernel) rfl) pa_nil))))
          (pss_one (ps_ret (pe_and (pe_callB call_isi (by rfl) B.isi (by decide +kernel) (pa_cons (pv 0) (pa_cons (pe_bltn (v := .ty "str") (by rfl) B.str (by decide +kernel) rfl) pa_nil))) (pe_one (pe_cmpR op_eq (pv 0) (pv 1) (nomark _)))))) pss_nil)
        (pss_cons (ps_if (PW.pt (pw_or (pt_cmpR op_ne (pe_callB call_isi (by rfl) B.isi (by decide +kernel) (pa_cons (pv 1) (pa_cons (pe_bltn (v := .ty "tuple") (by rfl) B.tup (by decide +kernel) rfl) pa_nil))) (pe_callB call_isi (by rfl) B.isi (by decide +kernel) (pa_cons (pv 0) (pa_cons (pe_bltn (v := .ty "tuple") (by rfl) B.tup (by decide +kernel) rfl) pa_nil))) (nomark _))
            (pw_or1 (pt_cmpR op_ne (pe_callB call_isi (by rfl) B.isi (by decide +kernel) (pa_cons (pv 1) (pa_cons (pe_bltn (v := .ty "list") (by rfl) B.lst (by decide +kernel) rfl) pa_nil))) (pe_callB call_isi (by rfl) B.isi (by decide +kernel) (pa_cons (pv 0) (pa_cons (pe_bltn (v := .ty "list") (by rfl) B.lst (by decide +kernel) rfl) pa_nil))) (nomark _)))))
          (pss_one (ps_ret pe_bl)) pss_nil)
        (pss_cons (ps_if (pt_cmpR op_ne (pe_callB call_len_seq (by rfl) B.len PySem.boot_len (pa_cons (pv 0) pa_nil)) (pe_callB call_len_seq (by rfl) B.len PySem.boot_len (pa_cons (pv 1) pa_nil)) (nomark _)) (pss_one (ps_ret pe_bl)) pss_nil)
        (pss_one (ps_ret (pe_callB (cr_all rfl) (by rfl) B.all (by decide +kernel) (pa_cons (pe_lc (own := [("_law_k", 2)]) (g := gName 2) (tt := tYes) rfl scLK.nd (pi_range1 rfl B.rng (pa_cons (pe_callB call_len_seq (by rfl) B.len PySem.boot_len (pa_cons (pv 1) pa_nil)) pa_nil))
          (blkOk_by (N := ["_law_found", "_law_due", "_law_k"]) (sc := defScope sLK) (by decide +kernel)) (fun _ _ _ _ _ => pg_name (i := 2) scLK.nd rfl (Or.inl rfl)) (fun _ _ _ _ _ => pts_nil)
          (fun _ _ _ _ _ => pe_call G hr rfl fm fk fb .nil pass0 (pa_cons (pe_ix (r := rIx K) ix_seq (pv 0) (pv 2) (fun _ _ => rfl)) (pa_cons (pe_ix (r := rIx K) ix_seq (pv 1) (pv 2) (fun _ _ => rfl)) pa_nil)))) pa_nil))))))))), ?_⟩
      have q0 := q H (Same.refl H)
      cases hv with
      | non =>
        exact ⟨.non, rfl, rfl, true, rfl, iteT ⟨.non, rfl, rfl, q0⟩⟩
      | bl b =>
        refine ⟨.bl b, rfl, rfl, _, rfl, iteF ⟨.bl b, rfl, .bl b, .ty "bool", .type "bool", .type "bool", true, rfl, .ty _, .base (.bl b), kit_ty (by decide +kernel), _, rfl, iteT ?_⟩⟩
        refine ⟨.bl b, rfl, .bl b, .ty "bool", .type "bool", .type "bool", true, rfl, .ty _, .base (.bl b), kit_ty (by decide +kernel), true, rfl, iteT ⟨_, rfl, _, rfl, rfl, ?_⟩⟩
        rw [decide_eq_true rfl]
        exact q0
      | int i =>
        refine ⟨.int i, rfl, rfl, _, rfl, iteF ⟨.int i, rfl, .int i, .ty "bool", .type "int", .type "bool", false, rfl, .ty _, .base (.int i), kit_ty (by decide +kernel), _, rfl, iteF ?_⟩⟩
        refine ⟨.int i, rfl, .int i, .ty "int", .type "int", .type "int", true, rfl, .ty _, .base (.int i), kit_ty (by decide +kernel), _, rfl, iteT ?_⟩
        refine ⟨.int i, rfl, i, rfl, true, rfl, iteT ⟨_, rfl, _, rfl, rfl, ?_⟩⟩
        rw [decide_eq_true rfl]
        exact q0
      | str x =>
        refine ⟨.str x, rfl, rfl, _, rfl, iteF ⟨.str x, rfl, .str x, .ty "bool", .type "str", .type "bool", false, rfl, .ty _, .base (.str x), kit_ty (by decide +kernel), _, rfl, iteF ?_⟩⟩
        refine ⟨.str x, rfl, .str x, .ty "int", .type "str", .type "int", false, rfl, .ty _, .base (.str x), kit_ty (by decide +kernel), _, rfl, iteF ?_⟩
        refine ⟨.str x, rfl, .str x, .ty "str", .type "str", .type "str", true, rfl, .ty _, .base (.str x), kit_ty (by decide +kernel), _, rfl, iteT ?_⟩
        refine ⟨.str x, rfl, .str x, .ty "str", .type "str", .type "str", true, rfl, .ty _, .base (.str x), kit_ty (by decide +kernel), true, rfl, iteT ⟨_, rfl, _, rfl, rfl, ?_⟩⟩
        rw [decide_eq_true rfl]
        exact q0
      | @lst m a b xs ys ha hb hl hz hi =>
        refine ⟨.ref b, rfl, rfl, _, rfl, iteF ⟨.ref b, rfl, .ref b, .ty "bool", .type "list", .type "bool", false, rfl, .ty _, ty_list hb, kit_ty (by decide +kernel), _, rfl, iteF ?_⟩⟩
        refine ⟨.ref b, rfl, .ref b, .ty "int", .type "list", .type "int", false, rfl, .ty _, ty_list hb, kit_ty (by decide +kernel), _, rfl, iteF ?_⟩
        refine ⟨.ref b, rfl, .ref b, .ty "str", .type "list", .type "str", false, rfl, .ty _, ty_list hb, kit_ty (by decide +kernel), _, rfl, iteF ?_⟩
        refine ⟨.ref b, rfl, .ref b, .ty "tuple", .type "list", .type "tuple", false, rfl, .ty _, ty_list hb, kit_ty (by decide +kernel), .ref a, rfl, .ref a, .ty "tuple", .type "list", .type "tuple", false, rfl, .ty _, ty_list ha, kit_ty (by decide +kernel), rfl, _, rfl, iteF ?_⟩
        refine ⟨.ref b, rfl, .ref b, .ty "list", .type "list", .type "list", true, rfl, .ty _, ty_list hb, kit_ty (by decide +kernel), .ref a, rfl, .ref a, .ty "list", .type "list", .type "list", true, rfl, .ty _, ty_list ha, kit_ty (by decide +kernel), rfl, _, rfl, iteF ?_⟩
        refine ⟨.ref a, rfl, a, xs, rfl, .inl ha, .ref b, rfl, b, ys, rfl, .inl hb, rfl, _, rfl, ?_⟩
        rw [hl, decide_eq_true rfl]
        refine iteF ⟨.ref b, rfl, b, ys, rfl, .inl hb, (ys.length : Int), rfl, by omega, by omega, fun D nD => ?_⟩
        refine lc_range (lo := 0) (n := ys.length) (fun i H2 => Same H H2 ∧ H2 D = some (.lst ((List.replicate i true).map V.bl))) ⟨same_new nD, upd_same⟩ (fun i H2 hlt h => ?_) (fun H2 h => ?_)
        · obtain ⟨s2, h2⟩ := h
          have hx : xs[i]? = some (xs[i]'(by omega)) := List.getElem?_eq_getElem (by omega)
          have hy : ys[i]? = some ys[i] := List.getElem?_eq_getElem hlt
          have e0 : (0 + (i : Int)) = ((i : Nat) : Int) := Int.zero_add _
          refine ⟨rfl, .ref a, rfl, .int (0 + (i : Int)), rfl, .inl ⟨a, xs, 0 + (i : Int), _, rfl, rfl, s2.seq ha, at_of e0 hx, .ref b, rfl, .int (0 + (i : Int)), rfl, .inl ⟨b, ys, 0 + (i : Int), _, rfl, rfl, s2.seq hb, at_of e0 hy, _, _, rfl, (hi i _ _ hx hy).same s2, fun H3 s3 => ⟨_, s3 _ _ h2, ?_, same_put (s2.trans s3) nD, ?_⟩⟩⟩⟩
          · rw [List.length_map, List.length_replicate]
            exact Nat.lt_of_le_of_lt (by omega : i ≤ 16000) (by decide)
          · rw [upd_same, List.replicate_succ', List.map_append]
            rfl
        · obtain ⟨s2, h2⟩ := h
          refine ⟨D, List.replicate ys.length true, rfl, SqL.of h2, ?_⟩
          rw [all_true]
          exact q H2 s2
      | @tup m a b xs ys ha hb hl hz hi =>
        refine ⟨.ref b, rfl, rfl, _, rfl, iteF ⟨.ref b, rfl, .ref b, .ty "bool", .type "tuple", .type "bool", false, rfl, .ty _, ty_tup hb, kit_ty (by decide +kernel), _, rfl, iteF ?_⟩⟩
        refine ⟨.ref b, rfl, .ref b, .ty "int", .type "tuple", .type "int", false, rfl, .ty _, ty_tup hb, kit_ty (by decide +kernel), _, rfl, iteF ?_⟩
        refine ⟨.ref b, rfl, .ref b, .ty "str", .type "tuple", .type "str", false, rfl, .ty _, ty_tup hb, kit_ty (by decide +kernel), _, rfl, iteF ?_⟩
        refine ⟨.ref b, rfl, .ref b, .ty "tuple", .type "tuple", .type "tuple", true, rfl, .ty _, ty_tup hb, kit_ty (by decide +kernel), .ref a, rfl, .ref a, .ty "tuple", .type "tuple", .type "tuple", true, rfl, .ty _, ty_tup ha, kit_ty (by decide +kernel), rfl, _, rfl, iteF ?_⟩
        refine ⟨.ref b, rfl, .ref b, .ty "list", .type "tuple", .type "list", false, rfl, .ty _, ty_tup hb, kit_ty (by decide +kernel), .ref a, rfl, .ref a, .ty "list", .type "tuple", .type "list", false, rfl, .ty _, ty_tup ha, kit_ty (by decide +kernel), rfl, _, rfl, iteF ?_⟩
        refine ⟨.ref a, rfl, a, xs, rfl, .inr ha, .ref b, rfl, b, ys, rfl, .inr hb, rfl, _, rfl, ?_⟩
        rw [hl, decide_eq_true rfl]
        refine iteF ⟨.ref b, rfl, b, ys, rfl, .inr hb, (ys.length : Int), rfl, by omega, by omega, fun D nD => ?_⟩
        refine lc_range (lo := 0) (n := ys.length) (fun i H2 => Same H H2 ∧ H2 D = some (.lst ((List.replicate i true).map V.bl))) ⟨same_new nD, upd_same⟩ (fun i H2 hlt h => ?_) (fun H2 h => ?_)
        · obtain ⟨s2, h2⟩ := h
          have hx : xs[i]? = some (xs[i]'(by omega)) := List.getElem?_eq_getElem (by omega)
          have hy : ys[i]? = some ys[i] := List.getElem?_eq_getElem hlt
          have e0 : (0 + (i : Int)) = ((i : Nat) : Int) := Int.zero_add _
          refine ⟨rfl, .ref a, rfl, .int (0 + (i : Int)), rfl, .inr (.inl ⟨a, xs, 0 + (i : Int), _, rfl, rfl, Same.tup s2 ha, at_of e0 hx, .ref b, rfl, .int (0 + (i : Int)), rfl, .inr (.inl ⟨b, ys, 0 + (i : Int), _, rfl, rfl, Same.tup s2 hb, at_of e0 hy, _, _, rfl, (hi i _ _ hx hy).same s2, fun H3 s3 => ⟨_, s3 _ _ h2, ?_, same_put (s2.trans s3) nD, ?_⟩⟩)⟩)⟩
          · rw [List.length_map, List.length_replicate]
            exact Nat.lt_of_le_of_lt (by omega : i ≤ 16000) (by decide)
          · rw [upd_same, List.replicate_succ', List.map_append]
            rfl
        · obtain ⟨s2, h2⟩ := h
          refine ⟨D, List.replicate ys.length true, rfl, SqL.of h2, ?_⟩
          rw [all_true]
          exact q H2 s2
end
end K46

set_option Elab.async false
set_option linter.all false
set_option maxRecDepth 100000
set_option maxHeartbeats 4000000
namespace K46
open PySem PySem.Spec PyProof.Rows L2 Pw TL
section
variable {P : Program} {w : World} {K : PySem.W.Frag} {mg : Str → Option Value} {base : Heap}
/-- a module's number, a module's text -/
def TxtN (mg : Str → Option Value) (x : Str) (z : Str) : Prop := ∃ u, mg x = some u ∧ RelV (.str z) u
/-- what stands in a deed -/
inductive Th
  | non
  | num (n : Nat)
  | txt (x : Str)
  | wds (ws : List Str)
def VTh (H : Hp) (v : V) : Th → Prop
  | .non => v = .non
  | .num n => v = .int (n : Nat)
  | .txt x => v = .str x
  | .wds ws => ∃ t, v = .ref t ∧ H t = some (.tup (ws.map V.str))
theorem VTh.same {H H' : Hp} {v : V} {th : Th} (h : VTh H v th) (s : Same H H') : VTh H' v th := by
  cases th with
  | non => exact h
  | num n => exact h
  | txt x => exact h
  | wds ws =>
    obtain ⟨t, e, ht⟩ := h
    exact ⟨t, e, s _ _ ht⟩
def okZero : V → Prop := fun v => v = .int 0
/-- BadText with row 0 -/
def badOut (C : Addr) (H : Hp) (E : XK) : Prop := ∀ d H', Same H H' → H d = none → H' d = some (.xd [("row", .int 0)]) → E (.ref C) (some d) H'
theorem badOut.same {C : Addr} {H H1 : Hp} {E : XK} (h : badOut C H E) (s : Same H H1) : badOut C H1 E := fun d H' s' n q => h d H' (s.trans s') (s.free n) q
/-- what a reader promises -/
def spRd (rd : Str → Option Th) (C : Addr) : Sp := fun vs H Q E => ∃ x : Str, vs = [.str x] ∧ (tl x).length ≤ 20000 ∧ (∀ th, rd x = some th → ∀ v H', Same H H' → VTh H' v th → Q v H') ∧ (rd x = none → badOut C H E)
theorem short_line {x : Str} (h : (tl x).length ≤ 20000) : x.length ≤ sizeLine := by
  rw [len_tl]
  exact Nat.le_trans h (by decide)
theorem str_nil (x : Str) : V.str x = V.str (Str.ofString "") ↔ tl x = [] := by
  constructor
  · intro h
    rw [V.str.inj h]
    rfl
  · intro h
    rw [str_tl (show tl x = tl (Str.ofString "") from h)]
/-! read_name -/
abbrev sRN : Stmt := topS 24
theorem scRN : FnScope ["text"] ["text"] (defScope sRN) := ⟨rfl, rfl, rfl, by decide +kernel, rfl, by decide +kernel, by decide +kernel⟩
def rdName (x : Str) : Option Th := if tl x = [] ∨ 10 ∈ tl x then none else some (.txt x)
theorem ok_rn {f C : Addr} {fd : FuncData} (F : Fun K "read_name" "read_name" sRN f fd) (T : ErrOk P w K mg base "BadText" "row" C okZero) : FnOk P w K mg base (L2.CX P w) 3 f fd ["text"] (spRd rdName C) := by
  refine F.okX scRN (fun vs H Q E h => ?_) (fun cdv A outer s H vs Q E hr h => ?_)
  · obtain ⟨x, rfl, _⟩ := h
    rfl
  · obtain ⟨x, rfl, hl, q1, q2⟩ := h
    refine ⟨_, pss_cons (ps_if (PW.pt (pw_or (pt_cmpR op_eq (pv 0) pe_str (nomark _)) (pw_or1 (pt_cmpR op_in_sign pe_str (pv 0) rfl)))) (pss_one (ps_raise rfl (takes_of rfl rfl rfl rfl) (pmk_err T hr rfl pe_int))) pss_nil)
      (pss_one (ps_ret (pv 0))), ?_⟩
    unfold rdName at q1 q2
    refine ⟨_, rfl, rfl, _, rfl, ?_⟩
    by_cases h0 : tl x = []
    · rw [decide_eq_true ((str_nil x).mpr h0)]
      refine iteT (iteT (err_read rfl fun d H2 s2 nd e2 => ?_))
      rw [if_pos (.inl h0)] at q2
      exact q2 rfl d H2 s2 nd e2
    · rw [decide_eq_false (fun z => h0 ((str_nil x).mp z))]
      refine iteF ⟨_, rfl, 10, x, rfl, rfl, _, rfl, ?_⟩
      by_cases h1 : 10 ∈ tl x
      · rw [decide_eq_true h1]
        refine iteT (err_read rfl fun d H2 s2 nd e2 => ?_)
        rw [if_pos (.inr h1)] at q2
        exact q2 rfl d H2 s2 nd e2
      · rw [decide_eq_false h1]
        rw [if_neg (fun z => z.elim h0 h1)] at q1
        exact iteF ⟨_, rfl, q1 _ rfl _ H (Same.refl H) rfl⟩
/-! read_word -/
abbrev sRW : Stmt := topS 25
theorem scRW : FnScope ["text"] ["text"] (defScope sRW) := ⟨rfl, rfl, rfl, by decide +kernel, rfl, by decide +kernel, by decide +kernel⟩
def rdWord (x : Str) : Option Th := if tl x = [] ∨ (strange (tl x)).isSome = true then none else some (.txt x)
theorem ok_rw {f C fFS : Addr} {fd fdFS : FuncData} (F : Fun K "read_word" "read_word" sRW f fd) (G : FnOk P w K mg base CX0 1 fFS fdFS ["text"] spFS) (gm : mg "first_stranger" = some (.ref fFS)) (gk : PySem.W.keepIn K (.ref fFS) = true) (gb : Binds K fdFS ["text"] [])
    (T : ErrOk P w K mg base "BadText" "row" C okZero) : FnOk P w K mg base (L2.CX P w) 3 f fd ["text"] (spRd rdWord C) := by
  refine F.okX scRW (fun vs H Q E h => ?_) (fun cdv A outer s H vs Q E hr h => ?_)
  · obtain ⟨x, rfl, _⟩ := h
    rfl
  · obtain ⟨x, rfl, hl, q1, q2⟩ := h
    refine ⟨_, pss_cons (ps_if (PW.pt (pw_or (pt_cmpR op_eq (pv 0) pe_str (nomark _)) (pw_or1 (pt_cmpR op_notN (pe_call G (hr.mono (by decide)) rfl gm gk gb .nil pass0 (pa_cons (pv 0) pa_nil)) pe_non (nomark _))))) (pss_one (ps_raise rfl (takes_of rfl rfl rfl rfl) (pmk_err T hr rfl pe_int))) pss_nil)
      (pss_one (ps_ret (pv 0))), ?_⟩
    unfold rdWord at q1 q2
    refine ⟨_, rfl, rfl, _, rfl, ?_⟩
    by_cases h0 : tl x = []
    · rw [decide_eq_true ((str_nil x).mpr h0)]
      refine iteT (iteT (err_read rfl fun d H2 s2 nd e2 => ?_))
      rw [if_pos (.inl h0)] at q2
      exact q2 rfl d H2 s2 nd e2
    · rw [decide_eq_false (fun z => h0 ((str_nil x).mp z))]
      refine iteF ⟨_, rfl, x, rfl, fun H1 s1 => ?_⟩
      cases e : strange (tl x) with
      | some i =>
        refine ⟨rfl, _, rfl, iteT (err_read rfl fun d H2 s2 nd e2 => ?_)⟩
        rw [if_pos (.inr (by rw [e]; rfl))] at q2
        exact q2 rfl d H2 (s1.trans s2) (s1.free nd) e2
      | none =>
        rw [if_neg (fun z => z.elim h0 (fun z => by rw [e] at z; cases z))] at q1
        exact ⟨rfl, _, rfl, iteF ⟨_, rfl, q1 _ rfl _ H1 s1 rfl⟩⟩
/-! read_row -/
abbrev sRR : Stmt := topS 27
theorem scRR : FnScope ["text"] ["text"] (defScope sRR) := ⟨rfl, rfl, rfl, by decide +kernel, rfl, by decide +kernel, by decide +kernel⟩
def dash : Str := Str.ofString "-"
def rdRow (x : Str) : Option Th := if x = dash then some (.txt (Str.ofString "")) else rdWord x
theorem ok_rr {f C fRW : Addr} {fd fdRW : FuncData} (F : Fun K "read_row" "read_row" sRR f fd) (G : FnOk P w K mg base (L2.CX P w) 3 fRW fdRW ["text"] (spRd rdWord C)) (gm : mg "read_word" = some (.ref fRW)) (gk : PySem.W.keepIn K (.ref fRW) = true) (gb : Binds K fdRW ["text"] [])
    (N : TxtN mg "NONE" dash) : FnOk P w K mg base (L2.CX P w) 4 f fd ["text"] (spRd rdRow C) := by
  obtain ⟨uN, mN, rN⟩ := N
  refine F.okX scRR (fun vs H Q E h => ?_) (fun cdv A outer s H vs Q E hr h => ?_)
  · obtain ⟨x, rfl, _⟩ := h
    rfl
  · obtain ⟨x, rfl, hl, q1, q2⟩ := h
    refine ⟨_, pss_one (ps_ret (pe_ifExp (pt_cmpR op_eq (pv 0) (pe_glob rfl mN rN) (nomark _)) pe_str (pe_call (E := E) G hr rfl gm gk gb .nil (passes_call (takes_of rfl rfl rfl rfl) (fun _ _ _ _ z => z)) (pa_cons (pv 0) pa_nil)))), ?_⟩
    unfold rdRow at q1 q2
    refine ⟨_, rfl, rfl, _, rfl, ?_⟩
    by_cases h0 : x = dash
    · rw [decide_eq_true (by rw [h0])]
      rw [if_pos h0] at q1
      exact iteT (q1 _ rfl _ H (Same.refl H) rfl)
    · rw [decide_eq_false (fun z => h0 (V.str.inj z))]
      rw [if_neg h0] at q1 q2
      exact iteF ⟨_, rfl, x, rfl, hl, q1, q2⟩
end
end K46

set_option Elab.async false
set_option linter.all false
set_option maxRecDepth 100000
set_option maxHeartbeats 4000000
namespace K46
open PySem PySem.Spec PyProof.Rows L2 Pw TL
section
variable {P : Program} {w : World} {K : PySem.W.Frag} {mg : Str → Option Value} {base : Heap}
/-! read_number -/
abbrev sRM : Stmt := topS 28
abbrev nRM : List Str := ["text", "figure"]
theorem scRM : FnScope nRM ["text"] (defScope sRM) := ⟨rfl, rfl, rfl, by decide +kernel, rfl, by decide +kernel, by decide +kernel⟩
def figs : Str := Str.ofString "0123456789"
def isFig (c : Nat) : Bool := decide (48 ≤ c ∧ c ≤ 57)
theorem fig_in (c : Nat) : c ∈ tl figs ↔ isFig c = true := by
  unfold isFig
  rw [decide_eq_true_eq]
  constructor
  · intro h
    have : c ∈ [48, 49, 50, 51, 52, 53, 54, 55, 56, 57] := h
    simp only [List.mem_cons, List.not_mem_nil, or_false] at this
    omega
  · intro h
    show c ∈ [48, 49, 50, 51, 52, 53, 54, 55, 56, 57]
    simp only [List.mem_cons, List.not_mem_nil, or_false]
    omega
def numB (x : Str) : Bool := decide (1 ≤ (tl x).length ∧ (tl x).length ≤ 6) && (tl x).all isFig && !(decide ((tl x).head? = some 48) && decide (tl x ≠ [48]))
def rdNum (x : Str) : Option Th := if numB x = true then some (.num (PySem.NumText.digitsVal (tl x))) else none
theorem any_map_not (l : List Nat) : (l.map fun c => !isFig c).any id = !(l.all isFig) := by
  induction l with
  | nil => rfl
  | cons c r ih =>
    rw [List.map_cons, List.any_cons, ih, List.all_cons, Bool.not_and]
    rfl
theorem ok_rm {f C : Addr} {fd : FuncData} (F : Fun K "read_number" "read_number" sRM f fd) (T : ErrOk P w K mg base "BadText" "row" C okZero) (ml : mg "len" = none) (ma : mg "any" = none) (mi : mg "int" = none) (NM : Num mg "MOST_FIGURES" 6) (NF : TxtN mg "FIGURES" figs) :
    FnOk P w K mg base (L2.CX P w) 3 f fd ["text"] (spRd rdNum C) := by
  obtain ⟨uM, mM, rM⟩ := NM
  obtain ⟨uF, mF, rF⟩ := NF
  refine F.okX scRM (fun vs H Q E h => ?_) (fun cdv A outer s H vs Q E hr h => ?_)
  · obtain ⟨x, rfl, _⟩ := h
    rfl
  · obtain ⟨x, rfl, hl, q1, q2⟩ := h
    have hz := short_line hl
    refine ⟨_, pss_cons (ps_if (PW.pt (pw_or (pt_not (pt_chain op_le op_le pe_int (pe_callB call_len_str (by rfl) ml PySem.boot_len (pa_cons (pv 0) pa_nil)) (pe_glob rfl mM rM)))
        (pw_or1 (pt_val (pe_callB (cr_any rfl) (by rfl) ma (by decide +kernel) (pa_cons (pe_lc (own := [("figure", 1)]) (g := gName 1) (tt := tYes) rfl scRM.nd (pi_str (pv 0))
          (blkOk_by (N := nRM) (sc := defScope sRM) (by decide +kernel)) (fun _ _ _ _ _ => pg_name (i := 1) scRM.nd rfl (Or.inl rfl)) (fun _ _ _ _ _ => pts_nil)
          (fun _ _ _ _ _ => pe_cmpR op_notIn_sign (pv 1) (pe_glob rfl mF rF) rfl)) pa_nil)))))) (pss_one (ps_raise rfl (takes_of rfl rfl rfl rfl) (pmk_err T hr rfl pe_int))) pss_nil)
      (pss_cons (ps_if (PW.pt (pw_and (pt_cmpR op_eq (pe_ix ix_str (pv 0) pe_int (fun _ _ => rfl)) pe_str (nomark _)) (pw_and1 (pt_cmpR op_ne (pv 0) pe_str (nomark _))))) (pss_one (ps_raise rfl (takes_of rfl rfl rfl rfl) (pmk_err T hr rfl pe_int))) pss_nil)
      (pss_one (ps_ret (pe_callTy call_int_str (by rfl) mi (by decide +kernel) (pa_cons (pv 0) pa_nil))))), ?_⟩
    have fail : numB x = false → ∀ H1, Same H H1 → ∀ d H2, Same H1 H2 → H1 d = none → H2 d = some (.xd [("row", .int 0)]) → E (.ref C) (some d) H2 := fun e H1 s1 d H2 s2 nd e2 => by
      refine q2 ?_ d H2 (s1.trans s2) (s1.free nd) e2
      unfold rdNum
      rw [if_neg (by rw [e]; decide)]
    refine ⟨_, rfl, x, rfl, hz, _, _, rfl, rfl, _, rfl, ?_⟩
    by_cases h1 : (1 : Int) ≤ (x.length : Nat)
    · rw [decide_eq_true h1]
      refine iteT ⟨_, _, rfl, rfl, _, rfl, ?_⟩
      by_cases h6 : ((x.length : Nat) : Int) ≤ 6
      · rw [decide_eq_true h6]
        have hlen : 1 ≤ (tl x).length ∧ (tl x).length ≤ 6 := by
          rw [← len_tl]
          omega
        refine iteF ⟨_, rfl, x, rfl, fun D nD => ?_⟩
        refine lc_str (z := x) (fun i H2 => Same H H2 ∧ H2 D = some (.lst ((((tl x).take i).map fun c => !isFig c).map V.bl))) ⟨same_new nD, upd_same⟩ (fun i c H2 hc h => ?_) (fun H2 h => ?_)
        · obtain ⟨s2, h2⟩ := h
          have hc' : (tl x)[i]? = some c := by rw [← hc]; exact Array.getElem?_toList
          refine ⟨rfl, _, rfl, c, figs, rfl, rfl, _, h2, ?_, same_put s2 nD, ?_⟩
          · rw [List.length_map, List.length_map, List.length_take]
            exact Nat.lt_of_le_of_lt (Nat.min_le_right _ _) (Nat.lt_of_le_of_lt hlen.2 (by decide))
          · rw [upd_same, take_snoc hc', List.map_append, List.map_append]
            have e : decide (c ∈ figs.cps.toList) = isFig c := by
              cases hf : isFig c with
              | true => exact decide_eq_true ((fig_in c).mpr hf)
              | false => exact decide_eq_false (fun z => by rw [(fig_in c).mp z] at hf; cases hf)
            rw [e]
            rfl
        obtain ⟨s2, h2⟩ := h
        have hfull : (tl x).take x.cps.size = tl x := List.take_of_length_le (by simp)
        rw [hfull] at h2
        refine ⟨D, _, rfl, SqL.of h2, _, rfl, ?_⟩
        rw [any_map_not]
        cases hall : (tl x).all isFig with
        | false =>
          refine iteT (err_read rfl fun d H3 s3 nd e3 => fail ?_ H2 s2 d H3 s3 nd e3)
          unfold numB
          rw [hall, Bool.and_false, Bool.false_and]
        | true =>
          obtain ⟨c, r, ex⟩ : ∃ c r, tl x = c :: r := by
            cases ex : tl x with
            | nil =>
              rw [ex] at hlen
              have := hlen.1
              simp at this
            | cons c r => exact ⟨c, r, rfl⟩
          have hnum : ∀ b : Bool, (decide ((tl x).head? = some 48) && decide (tl x ≠ [48])) = b → numB x = !b := fun b e => by
            unfold numB
            rw [hall, decide_eq_true hlen, e]
            rfl
          have good : numB x = true → Q (.int (PySem.NumText.digitsVal (tl x) : Nat)) H2 := fun e => q1 (.num (PySem.NumText.digitsVal (tl x))) (by unfold rdNum; rw [if_pos e]) _ H2 s2 rfl
          have hd : PySem.NumText.AllDigits x.cps.toList := fun d hd => by
            have := List.all_eq_true.mp hall d hd
            exact of_decide_eq_true this
          have hin : PySem.intText? x = some ((PySem.NumText.digitsVal (tl x) : Nat) : Int) := PySem.intText_digits hd (by show tl x ≠ []; rw [ex]; simp) (by rw [len_tl]; omega)
          have hx0 : (tl x)[0]? = some c := by rw [ex]; rfl
          have hat : atI (tl x) 0 = some c := atI_nat (j := 0) hx0
          refine iteF ⟨_, rfl, x, 0, c, rfl, rfl, hz, ?_, rfl, _, rfl, ?_⟩
          · exact hat
          by_cases h0 : c = 48
          · rw [decide_eq_true ((one_sign c).1.mpr h0)]
            refine iteT ⟨_, rfl, rfl, _, rfl, ?_⟩
            have hh : (tl x).head? = some 48 := by rw [ex, h0]; rfl
            by_cases hx : tl x = [48]
            · rw [decide_eq_true (show V.str x = V.str (Str.ofString "0") by rw [str_tl (show tl x = tl (Str.ofString "0") from hx)])]
              have e := hnum false (by rw [show decide (tl x ≠ [48]) = false from decide_eq_false (fun z => z hx), Bool.and_false])
              exact iteF ⟨_, rfl, x, _, rfl, hin, by rw [len_tl]; omega, good e⟩
            · rw [decide_eq_false (fun z => hx (by rw [V.str.inj z]; rfl))]
              have e := hnum true (by rw [decide_eq_true hh, decide_eq_true hx]; rfl)
              exact iteT (err_read rfl fun d H3 s3 nd e3 => fail e H2 s2 d H3 s3 nd e3)
          · rw [decide_eq_false (fun z => h0 ((one_sign c).1.mp z))]
            have e := hnum false (by rw [decide_eq_false (show ¬ (tl x).head? = some 48 by rw [ex]; intro z; exact h0 (Option.some.inj z)), Bool.false_and])
            exact iteF (iteF ⟨_, rfl, x, _, rfl, hin, by rw [len_tl]; omega, good e⟩)
      · rw [decide_eq_false h6]
        refine iteT (iteT (err_read rfl fun d H3 s3 nd e3 => fail ?_ H (Same.refl H) d H3 s3 nd e3))
        unfold numB
        rw [decide_eq_false (by rw [← len_tl]; omega), Bool.false_and, Bool.false_and]
    · rw [decide_eq_false h1]
      refine iteF ⟨_, rfl, iteT (iteT (err_read rfl fun d H3 s3 nd e3 => fail ?_ H (Same.refl H) d H3 s3 nd e3))⟩
      unfold numB
      rw [decide_eq_false (by rw [← len_tl]; omega), Bool.false_and, Bool.false_and]
/-! read_bound -/
abbrev sRB : Stmt := topS 29
theorem scRB : FnScope ["text"] ["text"] (defScope sRB) := ⟨rfl, rfl, rfl, by decide +kernel, rfl, by decide +kernel, by decide +kernel⟩
def rdBound (x : Str) : Option Th := if x = dash then some .non else rdNum x
theorem ok_rb {f C fRM : Addr} {fd fdRM : FuncData} (F : Fun K "read_bound" "read_bound" sRB f fd) (G : FnOk P w K mg base (L2.CX P w) 3 fRM fdRM ["text"] (spRd rdNum C)) (gm : mg "read_number" = some (.ref fRM)) (gk : PySem.W.keepIn K (.ref fRM) = true) (gb : Binds K fdRM ["text"] [])
    (N : TxtN mg "NONE" dash) : FnOk P w K mg base (L2.CX P w) 4 f fd ["text"] (spRd rdBound C) := by
  obtain ⟨uN, mN, rN⟩ := N
  refine F.okX scRB (fun vs H Q E h => ?_) (fun cdv A outer s H vs Q E hr h => ?_)
  · obtain ⟨x, rfl, _⟩ := h
    rfl
  · obtain ⟨x, rfl, hl, q1, q2⟩ := h
    refine ⟨_, pss_one (ps_ret (pe_ifExp (pt_cmpR op_eq (pv 0) (pe_glob rfl mN rN) (nomark _)) pe_non (pe_call (E := E) G hr rfl gm gk gb .nil (passes_call (takes_of rfl rfl rfl rfl) (fun _ _ _ _ z => z)) (pa_cons (pv 0) pa_nil)))), ?_⟩
    unfold rdBound at q1 q2
    refine ⟨_, rfl, rfl, _, rfl, ?_⟩
    by_cases h0 : x = dash
    · rw [decide_eq_true (by rw [h0])]
      rw [if_pos h0] at q1
      exact iteT (q1 _ rfl _ H (Same.refl H) rfl)
    · rw [decide_eq_false (fun z => h0 (V.str.inj z))]
      rw [if_neg h0] at q1 q2
      exact iteF ⟨_, rfl, x, rfl, hl, q1, q2⟩
end
end K46

set_option Elab.async false
set_option linter.all false
set_option maxRecDepth 100000
set_option maxHeartbeats 4000000
namespace K46
open PySem PySem.Spec PyProof.Rows L2 Pw TL
section
variable {P : Program} {w : World} {K : PySem.W.Frag} {mg : Str → Option Value} {base : Heap}
def plus : Str := Str.ofString "+"
def blank1 : Str := Str.ofString " "
def wordOk (x : Str) : Bool := decide (tl x ≠ []) && (strange (tl x)).isNone
theorem rdWord_is (x : Str) : rdWord x = if wordOk x = true then some (.txt x) else none := by
  unfold rdWord wordOk
  by_cases h0 : tl x = []
  · rw [if_pos (.inl h0), show decide (tl x ≠ []) = false from decide_eq_false (fun z => z h0)]
    rfl
  · rw [show decide (tl x ≠ []) = true from decide_eq_true h0, Bool.true_and]
    cases e : strange (tl x) with
    | none =>
      rw [if_neg (fun z => z.elim h0 (fun z => nomatch z))]
      rfl
    | some i =>
      rw [if_pos (.inr rfl)]
      rfl
def rdWords (x : Str) : Option Th := if x = dash then some (.wds []) else if (Txt.split x plus).all wordOk = true then some (.wds (Txt.split x plus)) else none
/-- a reader that lets nothing out -/
def spRdC (rd : Str → Option Th) : Sp := fun vs H Q _ => ∃ (x : Str) (th : Th), vs = [.str x] ∧ (tl x).length ≤ 20000 ∧ rd x = some th ∧ ∀ v H', Same H H' → VTh H' v th → Q v H'
theorem rd_calm {rd : Str → Option Th} {C f : Addr} {fd : FuncData} {k : Nat} (G : FnOk P w K mg base (L2.CX P w) k f fd ["text"] (spRd rd C)) : FnOk P w K mg base CX0 k f fd ["text"] (spRdC rd) :=
  calm_of G (fun vs H Q E h => by
    obtain ⟨x, th, e, hl, e2, q⟩ := h
    refine ⟨x, e, hl, fun th' e3 v H' s hv => ?_, fun e3 => ?_⟩
    · obtain rfl : th = th' := Option.some.inj (e2.symm.trans e3)
      exact q v H' s hv
    · rw [e2] at e3
      cases e3)
theorem split_short {x y : Str} {z : Str} (h : z ∈ Txt.split x y) : z.length ≤ x.length := part_short h
theorem split_len' (x : Str) : (Txt.split x plus).length ≤ x.length + 2 := split_le x plus
/-! read_words -/
abbrev sRS : Stmt := topS 26
abbrev nRS : List Str := ["text", "word"]
theorem scRS : FnScope nRS ["text"] (defScope sRS) := ⟨rfl, rfl, rfl, by decide +kernel, rfl, by decide +kernel, by decide +kernel⟩
end
section
variable {P : Program} {w : World} {K : PySem.W.Frag} {mg : Str → Option Value} {base : Heap}
theorem ok_rsE {f C fRW : Addr} {fd fdRW : FuncData} (F : Fun K "read_words" "read_words" sRS f fd) (G : FnOk P w K mg base (L2.CX P w) 3 fRW fdRW ["text"] (spRd rdWord C)) (gm : mg "read_word" = some (.ref fRW)) (gk : PySem.W.keepIn K (.ref fRW) = true) (gb : Binds K fdRW ["text"] [])
    (N : TxtN mg "NONE" dash) (mt : mg "tuple" = none) : FnOk P w K mg base (L2.CX P w) 4 f fd ["text"] (spRd rdWords C) := by
  obtain ⟨uN, mN, rN⟩ := N
  refine F.okX scRS (fun vs H Q E h => ?_) (fun cdv A outer s H vs Q E hr h => ?_)
  · obtain ⟨x, rfl, _⟩ := h
    rfl
  · obtain ⟨x, rfl, hl, q1, q2⟩ := h
    refine ⟨_, pss_one (ps_ret (pe_ifExp (pt_cmpR op_eq (pv 0) (pe_glob rfl mN rN) (nomark _)) (pe_tup pa_nil)
      (pe_callTy call_tuple_of (by rfl) mt (by decide +kernel) (pa_cons (PwE.pe_lcE (E := E) (own := [("word", 1)]) (g := gName 1) (tt := tYes) rfl scRS.nd (takes_of rfl rfl rfl rfl) rfl rfl (pi_list (pe_split (pv 0) pe_str))
        (blkOk_by (N := nRS) (sc := defScope sRS) (by decide +kernel)) (fun _ _ _ _ _ _ => pg_name (i := 1) scRS.nd rfl (Or.inl rfl)) (fun _ _ _ _ _ _ => pts_nil)
        (fun _ _ _ _ _ _ hx => pe_call (E := E) G hr rfl gm gk gb .nil hx (pa_cons (pv 1) pa_nil))) pa_nil)))), ?_⟩
    unfold rdWords at q1 q2
    refine ⟨_, rfl, rfl, _, rfl, ?_⟩
    by_cases h0 : x = dash
    · rw [decide_eq_true (by rw [h0])]
      rw [if_pos h0] at q1
      exact iteT ⟨by show 0 ≤ sizeLine; decide, fun T nT => q1 _ rfl _ _ (same_new nT) ⟨T, rfl, upd_same⟩⟩
    · rw [decide_eq_false (fun z => h0 (V.str.inj z))]
      rw [if_neg h0] at q1 q2
      have hsh : ∀ y ∈ Txt.split x plus, (tl y).length ≤ 20000 := fun y hy => by
        rw [← len_tl]
        exact Nat.le_trans (split_short hy) (by rw [len_tl]; exact hl)
      refine iteF ⟨_, rfl, ⟨x, rfl⟩, x, plus, rfl, rfl, rfl, ?_, fun l nl => ?_⟩
      · rw [len_tl]
        exact Nat.le_trans (Nat.add_le_add_right hl 2) (by decide)
      refine ⟨l, rfl, ⟨_, SqL.of upd_same⟩, fun D nD => ?_⟩
      have sl : Same H (upd H l (.lst ((Txt.split x plus).map V.str))) := same_new nl
      refine lc_list (K := K) (a := l) (xs := (Txt.split x plus).map V.str) (fun i H2 => Same (upd H l (.lst ((Txt.split x plus).map V.str))) H2 ∧ H2 D = some (.lst (((Txt.split x plus).take i).map V.str)) ∧ ((Txt.split x plus).take i).all wordOk = true)
        ⟨same_new nD, upd_same, by rw [List.take_zero]; rfl⟩ (fun i H2 _ h => SqL.of (h.1 _ _ upd_same)) (fun i v H2 hv h => ?_) (fun H2 h => ?_)
      · obtain ⟨s2, h2, hall⟩ := h
        rw [List.getElem?_map] at hv
        cases hz : (Txt.split x plus)[i]? with
        | none =>
          rw [hz] at hv
          cases hv
        | some y =>
          rw [hz] at hv
          obtain rfl : V.str y = v := Option.some.inj hv
          have hy := List.mem_of_getElem? hz
          refine ⟨rfl, _, rfl, y, rfl, hsh y hy, fun th e v H3 s3 hv => ?_, fun e => ?_⟩
          · rw [rdWord_is] at e
            by_cases hk : wordOk y = true
            · rw [if_pos hk] at e
              obtain rfl := Option.some.inj e
              obtain rfl : v = .str y := hv
              refine ⟨_, s3 _ _ h2, ?_, same_put (s2.trans s3) nD, ?_, ?_⟩
              · rw [List.length_map, List.length_take]
                have b := split_len' x
                rw [len_tl] at b
                exact Nat.lt_of_le_of_lt (Nat.le_trans (Nat.min_le_right _ _) (Nat.le_trans b (Nat.add_le_add_right hl 2))) (by decide)
              · rw [upd_same, List.take_add_one, hz, List.map_append]
                rfl
              · rw [List.take_add_one, hz, List.all_append, hall]
                show (wordOk y && true) = true
                rw [hk]
                rfl
            · rw [if_neg hk] at e
              cases e
          · rw [rdWord_is] at e
            by_cases hk : wordOk y = true
            · rw [if_pos hk] at e
              cases e
            · rw [if_neg (fun z => hk (List.all_eq_true.mp z y hy))] at q2
              exact (q2 rfl).same (sl.trans s2)
      obtain ⟨s2, h2, hall⟩ := h
      rw [List.length_map, List.take_length] at h2 hall
      rw [if_pos hall] at q1
      exact ⟨D, _, rfl, .inl ⟨SqL.of h2, fun T nT => q1 _ rfl _ _ (sl.trans (s2.trans (same_new nT))) ⟨T, rfl, upd_same⟩⟩⟩
end
end K46

set_option Elab.async false
set_option linter.all false
set_option maxRecDepth 100000
set_option maxHeartbeats 4000000
namespace K46
open PySem PySem.Spec PyProof.Rows L2 Pw TL
section
variable {P : Program} {w : World} {K : PySem.W.Frag} {mg : Str → Option Value} {base : Heap}
/-- the kinds of things -/
inductive Kd
  | name | word | words | row | number | bound
  deriving DecidableEq
def Kd.txt : Kd → Str
  | .name => Str.ofString "name"
  | .word => Str.ofString "word"
  | .words => Str.ofString "words"
  | .row => Str.ofString "row"
  | .number => Str.ofString "number"
  | .bound => Str.ofString "bound"
def Kd.rd : Kd → Str → Option Th
  | .name => rdName
  | .word => rdWord
  | .words => rdWords
  | .row => rdRow
  | .number => rdNum
  | .bound => rdBound
def Kd.v (k : Kd) : V := .str k.txt
/-- the forms of deeds -/
def forms : List (Str × List Kd) := [("rule", [.name, .words, .number, .bound, .bound]), ("bar", [.name, .word]), ("free", [.name, .word]), ("bound", [.name, .number, .bound, .bound]), ("forget", [.name]),
  ("table", [.name, .name, .number, .number, .number]), ("drop", [.name]), ("line", [.name, .name]), ("write", [.name, .row]), ("turn", [.name, .number]), ("wipe", [.name, .number, .number]), ("cut", [.name, .number]), ("burn", [.name])]
structure Frm (w : World) (K : PySem.W.Frag) (mg : Str → Option Value) (DF : Addr) (es : Array DictEntry) (n : Nat) : Prop where
  m : mg "DEED_FORMS" = some (.ref DF)
  d : KDict K w DF es n
  g : ∀ x ks, (x, ks) ∈ forms → ∃ t, PySem.W.nsIn K DF x = some (some (.ref t)) ∧ ∀ H, SqT K H t (ks.map Kd.v)
structure RdrE (P : Program) (w : World) (K : PySem.W.Frag) (mg : Str → Option Value) (base : Heap) (C DR : Addr) (es : Array DictEntry) (n : Nat) (fR : Kd → Addr) (fdR : Kd → FuncData) : Prop where
  m : mg "READERS" = some (.ref DR)
  d : KDict K w DR es n
  g : ∀ k : Kd, PySem.W.nsIn K DR k.txt = some (some (.ref (fR k)))
  o : ∀ k : Kd, FnOk P w K mg base (L2.CX P w) 4 (fR k) (fdR k) ["text"] (spRd k.rd C)
  k : ∀ k : Kd, PySem.W.keepIn K (.ref (fR k)) = true
  b : ∀ k : Kd, Binds K (fdR k) ["text"] []
/-- things read of texts, kind by kind -/
inductive Reads2 : List Kd → List Str → List Th → Prop
  | nil : Reads2 [] [] []
  | cons {k : Kd} {x : Str} {th : Th} {ks : List Kd} {xs : List Str} {ths : List Th} (h : k.rd x = some th) (hl : (tl x).length ≤ 20000) (t : Reads2 ks xs ths) : Reads2 (k :: ks) (x :: xs) (th :: ths)
theorem Reads2.len {ks : List Kd} {xs : List Str} {ths : List Th} (h : Reads2 ks xs ths) : ks.length = xs.length ∧ ths.length = xs.length := by
  induction h with
  | nil => exact ⟨rfl, rfl⟩
  | cons _ _ _ ih =>
    rw [List.length_cons, List.length_cons, List.length_cons, ih.1, ih.2]
    exact ⟨rfl, rfl⟩
theorem Reads2.at {ks : List Kd} {xs : List Str} {ths : List Th} (h : Reads2 ks xs ths) : ∀ (i : Nat) (k : Kd) (x : Str), ks[i]? = some k → xs[i]? = some x → ∃ th, ths[i]? = some th ∧ k.rd x = some th ∧ (tl x).length ≤ 20000 := by
  induction h with
  | nil =>
    intro i k x e
    cases e
  | cons h hl t ih =>
    intro i k x e1 e2
    cases i with
    | zero =>
      obtain rfl := Option.some.inj e1
      obtain rfl := Option.some.inj e2
      exact ⟨_, rfl, h, hl⟩
    | succ i => exact ih i k x e1 e2
/-- values of things -/
inductive VThs (H : Hp) : List V → List Th → Prop
  | nil : VThs H [] []
  | cons {v : V} {th : Th} {vs : List V} {ths : List Th} (h : VTh H v th) (t : VThs H vs ths) : VThs H (v :: vs) (th :: ths)
theorem VThs.same {H H' : Hp} {vs : List V} {ths : List Th} (h : VThs H vs ths) (s : Same H H') : VThs H' vs ths := by
  induction h with
  | nil => exact .nil
  | cons h _ ih => exact .cons (h.same s) ih
theorem VThs.snoc {H : Hp} {vs : List V} {ths : List Th} {v : V} {th : Th} (h : VThs H vs ths) (e : VTh H v th) : VThs H (vs ++ [v]) (ths ++ [th]) := by
  induction h with
  | nil => exact .cons e .nil
  | cons h _ ih => exact .cons h ih
theorem VThs.len {H : Hp} {vs : List V} {ths : List Th} (h : VThs H vs ths) : vs.length = ths.length := by
  induction h with
  | nil => rfl
  | cons _ _ ih => rw [List.length_cons, List.length_cons, ih]
/-- what a line's parts are read as, kind by kind -/
def readsF : List Kd → List Str → Option (List Th)
  | [], [] => some []
  | k :: ks, x :: xs => match k.rd x, readsF ks xs with
    | some t, some ts => some (t :: ts)
    | _, _ => none
  | _, _ => none
theorem readsF_len : ∀ {ks : List Kd} {xs : List Str} {ths : List Th}, readsF ks xs = some ths → ks.length = xs.length ∧ ths.length = ks.length
  | [], [], ths, h => by
    obtain rfl := Option.some.inj h
    exact ⟨rfl, rfl⟩
  | k :: ks, x :: xs, ths, h => by
    unfold readsF at h
    cases e1 : k.rd x with
    | none =>
      rw [e1] at h
      cases h
    | some t =>
      cases e2 : readsF ks xs with
      | none =>
        rw [e1, e2] at h
        cases h
      | some ts =>
        rw [e1, e2] at h
        obtain rfl := Option.some.inj h
        obtain ⟨a, b⟩ := readsF_len e2
        rw [List.length_cons, List.length_cons, List.length_cons, a, b, a]
        exact ⟨rfl, rfl⟩
  | [], _ :: _, _, h => nomatch h
  | _ :: _, [], _, h => nomatch h
theorem readsF_ne {ks : List Kd} {xs : List Str} (h : ks.length ≠ xs.length) : readsF ks xs = none := by
  cases e : readsF ks xs with
  | none => rfl
  | some ths => exact absurd (readsF_len e).1 h
theorem readsF_snoc : ∀ {ks : List Kd} {xs : List Str} {ths : List Th} {k : Kd} {x : Str} {t : Th}, readsF ks xs = some ths → k.rd x = some t → readsF (ks ++ [k]) (xs ++ [x]) = some (ths ++ [t])
  | [], [], ths, k, x, t, h, e => by
    obtain rfl := Option.some.inj h
    show (match k.rd x, readsF [] [] with | some t, some ts => some (t :: ts) | _, _ => none) = _
    rw [e]
    rfl
  | k0 :: ks, x0 :: xs, ths, k, x, t, h, e => by
    unfold readsF at h
    cases e1 : k0.rd x0 with
    | none =>
      rw [e1] at h
      cases h
    | some t0 =>
      cases e2 : readsF ks xs with
      | none =>
        rw [e1, e2] at h
        cases h
      | some ts =>
        rw [e1, e2] at h
        obtain rfl := Option.some.inj h
        have := readsF_snoc e2 e
        show (match k0.rd x0, readsF (ks ++ [k]) (xs ++ [x]) with | some t, some ts => some (t :: ts) | _, _ => none) = _
        rw [e1, this]
        rfl
  | [], _ :: _, _, _, _, _, h, _ => nomatch h
  | _ :: _, [], _, _, _, _, h, _ => nomatch h
theorem readsF_bad : ∀ {ks : List Kd} {xs : List Str} {i : Nat} {k : Kd} {x : Str}, ks[i]? = some k → xs[i]? = some x → k.rd x = none → readsF ks xs = none
  | [], _, i, k, x, h, _, _ => by simp at h
  | _ :: _, [], i, k, x, _, h, _ => by simp at h
  | k0 :: ks, x0 :: xs, 0, k, x, h1, h2, e => by
    obtain rfl := Option.some.inj h1
    obtain rfl := Option.some.inj h2
    unfold readsF
    rw [e]
  | k0 :: ks, x0 :: xs, i + 1, k, x, h1, h2, e => by
    have := readsF_bad (ks := ks) (xs := xs) (i := i) h1 h2 e
    unfold readsF
    rw [this]
    cases k0.rd x0 <;> rfl
/-! read_things -/
abbrev sRT2 : Stmt := topS 31
abbrev nRT2 : List Str := ["kinds", "texts", "things", "kind", "text", "reader"]
theorem scRT2 : FnScope nRT2 ["kinds", "texts"] (defScope sRT2) := ⟨rfl, rfl, rfl, by decide +kernel, rfl, by decide +kernel, by decide +kernel⟩
def spRTE (K : PySem.W.Frag) (C : Addr) : Sp := fun vs H Q E => ∃ (a b : Addr) (ks : List Kd) (xs : List Str), vs = [.ref a, .ref b] ∧ SqT K H a (ks.map Kd.v) ∧ H b = some (.lst (xs.map V.str)) ∧ ks.length ≤ 5 ∧ (∀ x ∈ xs, (tl x).length ≤ 20000) ∧
  (∀ ths, readsF ks xs = some ths → ∀ (l : Addr) (us : List V) (H' : Hp), Same H H' → H l = none → H' l = some (.lst us) → VThs H' us ths → Q (.ref l) H') ∧ (readsF ks xs = none → badOut C H E)
theorem ok_rte {f C DR : Addr} {fd : FuncData} {es : Array DictEntry} {n : Nat} {fR : Kd → Addr} {fdR : Kd → FuncData} (F : Fun K "read_things" "read_things" sRT2 f fd) (R : RdrE P w K mg base C DR es n fR fdR) (T : ErrOk P w K mg base "BadText" "row" C okZero) (ml : mg "len" = none) (mz : mg "zip" = none) :
    FnOk P w K mg base (L2.CX P w) 5 f fd ["kinds", "texts"] (spRTE K C) := by
  refine F.okX scRT2 (fun vs H Q E h => ?_) (fun cdv A outer s H vs Q E hr h => ?_)
  · obtain ⟨a, b, ks, xs, rfl, _⟩ := h
    rfl
  · obtain ⟨a, b, ks, xs, rfl, hK, hb, h5, hsh, q1, q2⟩ := h
    refine ⟨_, pss_cons (ps_if (pt_cmpR op_ne (pe_callB call_len_seq (by rfl) ml PySem.boot_len (pa_cons (pv 0) pa_nil)) (pe_callB call_len_seq (by rfl) ml PySem.boot_len (pa_cons (pv 1) pa_nil)) (nomark _)) (pss_one (ps_raise rfl (takes_of rfl rfl rfl rfl) (pmk_err T (hr.mono (by decide)) rfl pe_int))) pss_nil)
      (pss_cons (ps_set (i := 2) scRT2.nd rfl (.inl rfl) (pe_lst pa_nil))
      (pss_cons (ps_for (passes_of rfl) rfl (pi_zipD (by rfl) mz (pa_cons (pv 0) (pa_cons (pv 1) pa_nil))) (pg_tup rfl (pgs_cons (pg_name (i := 3) scRT2.nd rfl (.inl rfl)) (pgs_cons (pg_name (i := 4) scRT2.nd rfl (.inl rfl)) pgs_nil)))
        (pss_cons (ps_set (i := 5) scRT2.nd rfl (.inl rfl) (pe_ix ix_kdict (pe_glob (v := .ref DR) rfl R.m rfl) (pv 3) (fun _ _ => rfl)))
        (pss_one (ps_expr (pe_bm PySem.F.plainAttrs_list PySem.F.slot_list_append PySem.F.type_list_append mt_append (pv 2) (pa_cons (pe_ex (fun k : Kd => pe_callL (i := 5) (E := E) (R.o k) hr rfl (.inl rfl) (R.k k) (R.b k) .nil (passes_call (takes_of rfl rfl rfl rfl) (fun _ _ _ _ z => z)) (pa_cons (pv 4) pa_nil))) pa_nil))))))
      (pss_one (ps_ret (pv 2))))), ?_⟩
    have lk0 : (ks.map Kd.v).length = ks.length := List.length_map ..
    have lx : (xs.map V.str).length = xs.length := List.length_map ..
    refine ⟨_, rfl, a, _, rfl, .inr hK, _, rfl, b, _, rfl, .inl (SqL.of hb), rfl, _, rfl, ?_⟩
    rw [lk0, lx]
    by_cases hne : ks.length = xs.length
    rotate_left
    · have hd : decide (V.int (ks.length : Nat) = V.int (xs.length : Nat)) = false := decide_eq_false (fun z => hne (by have := V.int.inj z; omega))
      rw [hd]
      exact iteT (err_read rfl fun d H2 s2 nd e2 => q2 (readsF_ne hne) d H2 s2 nd e2)
    have lk : (ks.map Kd.v).length = xs.length := lk0.trans hne
    have hd : decide (V.int (ks.length : Nat) = V.int (xs.length : Nat)) = true := decide_eq_true (by rw [hne])
    rw [hd]
    refine iteF ⟨by show 0 ≤ sizeLine; decide, fun l nl => ?_⟩
    have s0 : Same H (upd H l (.lst [])) := same_new nl
    refine ⟨_, rfl, _, rfl, .tup a, .lst b, _, _, rfl, Same.tup s0 hK, SqL.of (s0 _ _ hb), ?_⟩
    have bl : b ≠ l := ne_of_none hb nl
    refine for_it (walk_zipD (xs := ks.map Kd.v) (ys := xs.map V.str) (n := xs.length) (by rw [lk, lx]; exact (Nat.min_self _).symm)) (fun i σ H1 => (∃ y3 y4 y5, σ = [some (.ref a), some (.ref b), some (.ref l), y3, y4, y5]) ∧ Same H H1 ∧ ∃ us ths, H1 l = some (.lst us) ∧ VThs H1 us ths ∧ readsF (ks.take i) (xs.take i) = some ths)
      ⟨⟨none, none, none, rfl⟩, s0, [], [], upd_same, .nil, by rw [List.take_zero, List.take_zero]; rfl⟩ (fun i σ H1 _ h => ⟨Same.tup h.2.1 hK, SqL.of (h.2.1 _ _ hb)⟩) (fun i v σ H1 H1' hi h y => ?_) (fun σ H1 h => ?_)
    · obtain ⟨⟨y3, y4, y5, rfl⟩, s1, us, ths, hl1, hv1, hrd⟩ := h
      obtain ⟨T, xk, xt, rfl, nT, rfl, e1, e2⟩ := y
      have hk : ∃ k, ks[i]? = some k ∧ xk = k.v := by
        have e1' : (ks.map Kd.v)[i]? = some xk := e1
        rw [List.getElem?_map] at e1'
        cases hz : ks[i]? with
        | none =>
          rw [hz] at e1'
          cases e1'
        | some k =>
          rw [hz] at e1'
          exact ⟨k, rfl, (Option.some.inj e1').symm⟩
      obtain ⟨k, ek, rfl⟩ := hk
      have hx : ∃ x, xs[i]? = some x ∧ xt = .str x := by
        have e2' : (xs.map V.str)[i]? = some xt := e2
        rw [List.getElem?_map] at e2'
        cases hz : xs[i]? with
        | none =>
          rw [hz] at e2'
          cases e2'
        | some k =>
          rw [hz] at e2'
          exact ⟨k, rfl, (Option.some.inj e2').symm⟩
      obtain ⟨x, ex, rfl⟩ := hx
      have hsx := hsh x (List.mem_of_getElem? ex)
      have sT : Same H1 (upd H1 T (.tup [k.v, .str x])) := same_new nT
      have hlT := sT _ _ hl1
      refine ⟨T, _, rfl, .inl (.inl upd_same), rfl, _, _, rfl, _, _, rfl, rfl, ?_⟩
      refine ⟨_, rfl, DR, k.txt, .ref (fR k), rfl, rfl, ⟨es, n, _, R.d.at_, R.d.lit, R.g k, rfl⟩, ?_⟩
      refine ⟨_, rfl, .inl ⟨rfl, _, SqL.of hlT⟩, k, rfl, _, rfl, x, rfl, hsx, fun th er v H2 s2 hv => ?_, fun er => (q2 (readsF_bad ek ex er)).same (s1.trans sT)⟩
      have hl2 := s2 _ _ hlT
      have s12 : Same H H2 := (s1.trans sT).trans s2
      refine ⟨l, _, _, rfl, rfl, hl2, ?_, ⟨_, _, _, rfl⟩, ?_, us ++ [v], ths ++ [th], upd_same, ?_, ?_⟩
      · rw [hv1.len, (readsF_len hrd).2, List.length_take]
        exact Nat.lt_of_le_of_lt (Nat.min_le_right _ _) (Nat.lt_of_le_of_lt h5 (by decide))
      · exact same_put s12 nl
      · have np : ∀ {H3 : Hp}, True := trivial
        have keepL : ∀ {us' : List V} {ths' : List Th} {o : HO}, VThs H2 us' ths' → VThs (upd H2 l o) us' ths' := fun {us' ths' o} hh => by
          induction hh with
          | nil => exact .nil
          | @cons v' th' _ _ h _ ih =>
            refine .cons ?_ ih
            cases th' with
            | non => exact h
            | num n => exact h
            | txt x => exact h
            | wds ws =>
              obtain ⟨t, e, ht⟩ := h
              refine ⟨t, e, ?_⟩
              rw [upd_ne (fun z => by rw [z, hl2] at ht; cases ht)]
              exact ht
        exact keepL ((hv1.same (sT.trans s2)).snoc hv)
      · rw [List.take_add_one, List.take_add_one, ek, ex]
        exact readsF_snoc hrd er
    · obtain ⟨⟨y3, y4, y5, rfl⟩, s1, us, ths, hl1, hv1, hrd⟩ := h
      rw [List.take_of_length_le (by rw [hne]; exact Nat.le_refl _), List.take_of_length_le (Nat.le_refl _)] at hrd
      exact ⟨_, rfl, q1 ths hrd l us H1 s1 nl hl1 hv1⟩
end
section
variable {P : Program} {w : World} {K : PySem.W.Frag} {mg : Str → Option Value} {base : Heap}
theorem mil_lg {n : Nat} (h : n < 1000000) : ((n : Nat) : Int).natAbs.log2 < 1920 := by
  rw [Int.natAbs_natCast]
  by_cases e : n = 0
  · rw [e]
    decide
  · exact (Nat.log2_lt e).mpr (Nat.lt_of_lt_of_le (Nat.lt_of_lt_of_le h (by decide : 1000000 ≤ 2 ^ 20)) (Nat.pow_le_pow_right (by decide) (by decide)))
theorem sum20 : ∀ {ws : List Str}, (∀ x ∈ ws, (tl x).length ≤ 20) → (ws.map (·.length)).sum ≤ ws.length * 20
  | [], _ => Nat.zero_le _
  | z :: r, h => by
    have a1 := sum20 fun y hy => h y (List.mem_cons_of_mem _ hy)
    have a2 := h z List.mem_cons_self
    rw [List.map_cons, List.sum_cons, List.length_cons, len_tl]
    omega
theorem kd_eq (k k' : Kd) : decide (k.v = V.str k'.txt) = decide (k = k') := by
  cases k <;> cases k' <;> decide
end
end K46

set_option Elab.async false
set_option linter.all false
set_option maxRecDepth 100000
set_option maxHeartbeats 4000000
namespace K46
open PySem PySem.Spec PyProof.Rows L2 Pw TL
section
variable {P : Program} {w : World} {K : PySem.W.Frag} {mg : Str → Option Value} {base : Heap}
/-! is_word -/
abbrev sIW : Stmt := topS 13
theorem scIW : FnScope ["text"] ["text"] (defScope sIW) := ⟨rfl, rfl, rfl, by decide +kernel, rfl, by decide +kernel, by decide +kernel⟩
def wordB (x : Str) : Bool := decide (1 ≤ (tl x).length ∧ (tl x).length ≤ 5) && (strange (tl x)).isNone
def spIW : Sp := fun vs H Q _ => ∃ x : Str, vs = [.str x] ∧ (tl x).length ≤ 12000 ∧ ∀ H', Same H H' → Q (.bl (wordB x)) H'
theorem vOpt_non (o : Option Nat) : decide (vOpt o = .non) = o.isNone := by
  cases o with
  | none => rfl
  | some i => rfl
theorem ok_iw {f fFS : Addr} {fd fdFS : FuncData} (F : Fun K "is_word" "is_word" sIW f fd) (G : FnOk P w K mg base CX0 1 fFS fdFS ["text"] spFS) (gm : mg "first_stranger" = some (.ref fFS)) (gk : PySem.W.keepIn K (.ref fFS) = true) (gb : Binds K fdFS ["text"] [])
    (ml : mg "len" = none) (N5 : Num mg "LONGEST_WORD" 5) : FnOk P w K mg base CX0 2 f fd ["text"] spIW := by
  obtain ⟨u5, m5, r5⟩ := N5
  refine F.ok scIW (fun vs H Q E h => ?_) (fun cdv A outer s H vs Q E hr h => ?_)
  · obtain ⟨x, rfl, _⟩ := h
    rfl
  · obtain ⟨x, rfl, hl, q⟩ := h
    have hz : x.length ≤ sizeLine := by
      rw [len_tl]
      exact Nat.le_trans hl (by decide)
    refine ⟨_, pss_one (ps_ret (pe_and (pe_chain op_le op_le pe_int (pe_callB call_len_str (by rfl) ml PySem.boot_len (pa_cons (pv 0) pa_nil)) (pe_glob rfl m5 r5))
      (pe_one (pe_cmpR op_isN (pe_call G hr rfl gm gk gb .nil pass0 (pa_cons (pv 0) pa_nil)) pe_non (nomark _))))), ?_⟩
    refine ⟨_, rfl, x, rfl, hz, _, _, rfl, rfl, _, rfl, ?_⟩
    by_cases h1 : (1 : Int) ≤ (x.length : Nat)
    · rw [decide_eq_true h1]
      refine iteT ⟨_, _, rfl, rfl, _, rfl, ?_⟩
      by_cases h5 : ((x.length : Nat) : Int) ≤ 5
      · rw [decide_eq_true h5]
        refine iteT ⟨_, rfl, x, rfl, fun H1 s1 => ⟨rfl, ?_⟩⟩
        have := q H1 s1
        have e : wordB x = (strange (tl x)).isNone := by
          unfold wordB
          rw [decide_eq_true (show 1 ≤ (tl x).length ∧ (tl x).length ≤ 5 by rw [← len_tl]; omega), Bool.true_and]
        rw [e] at this
        rw [vOpt_non]
        exact this
      · rw [decide_eq_false h5]
        refine iteF ?_
        have := q H (Same.refl H)
        have e : wordB x = false := by
          unfold wordB
          rw [decide_eq_false (show ¬ (1 ≤ (tl x).length ∧ (tl x).length ≤ 5) by rw [← len_tl]; omega), Bool.false_and]
        rw [e] at this
        exact this
    · rw [decide_eq_false h1]
      refine iteF ⟨_, rfl, iteF ?_⟩
      have := q H (Same.refl H)
      have e : wordB x = false := by
        unfold wordB
        rw [decide_eq_false (show ¬ (1 ≤ (tl x).length ∧ (tl x).length ≤ 5) by rw [← len_tl]; omega), Bool.false_and]
      rw [e] at this
      exact this
/-! are_words -/
abbrev sAW : Stmt := topS 14
theorem scAW : FnScope ["texts", "text"] ["texts"] (defScope sAW) := ⟨rfl, rfl, rfl, by decide +kernel, rfl, by decide +kernel, by decide +kernel⟩
def wordsB (xs : List Str) : Bool := decide (xs.length ≤ 6) && decide (cntD xs = xs.length) && xs.all wordB
def spAW : Sp := fun vs H Q _ => ∃ (l : Addr) (xs : List Str), vs = [.ref l] ∧ H l = some (.lst (xs.map V.str)) ∧ xs.length ≤ 12100 ∧ (∀ x ∈ xs, (tl x).length ≤ 12000) ∧ ∀ H', Same H H' → Q (.bl (wordsB xs)) H'
theorem ok_aw {f fIW : Addr} {fd fdIW : FuncData} (F : Fun K "are_words" "are_words" sAW f fd) (G : FnOk P w K mg base CX0 2 fIW fdIW ["text"] spIW) (gm : mg "is_word" = some (.ref fIW)) (gk : PySem.W.keepIn K (.ref fIW) = true) (gb : Binds K fdIW ["text"] [])
    (ml : mg "len" = none) (ms : mg "set" = none) (ma : mg "all" = none) (N6 : Num mg "MOST_WORDS" 6) : FnOk P w K mg base CX0 3 f fd ["texts"] spAW := by
  obtain ⟨u6, m6, r6⟩ := N6
  refine F.ok scAW (fun vs H Q E h => ?_) (fun cdv A outer s H vs Q E hr h => ?_)
  · obtain ⟨l, xs, rfl, _⟩ := h
    rfl
  · obtain ⟨l, xs, rfl, hl, h60, hx, q⟩ := h
    refine ⟨_, pss_cons (ps_if (PW.pt (pw_or (pt_cmpR op_gt (pe_callB call_len_seq (by rfl) ml PySem.boot_len (pa_cons (pv 0) pa_nil)) (pe_glob rfl m6 r6) (nomark _)) (pw_or1 (pt_cmpR op_lt (pe_lenD rfl (by rfl) ml (by rfl) ms (pv 0)) (pe_callB call_len_seq (by rfl) ml PySem.boot_len (pa_cons (pv 0) pa_nil)) (nomark _))))) (pss_one (ps_ret pe_bl)) pss_nil)
      (pss_one (ps_ret (pe_callB (cr_all rfl) (by rfl) ma (by decide +kernel) (pa_cons (pe_lc (own := [("text", 1)]) (g := gName 1) (tt := tYes) rfl scAW.nd (pi_list (pv 0))
        (blkOk_by (N := ["texts", "text"]) (sc := defScope sAW) (by decide +kernel)) (fun _ _ _ _ _ => pg_name (i := 1) scAW.nd rfl (Or.inl rfl)) (fun _ _ _ _ _ => pts_nil)
        (fun _ _ _ _ _ => pe_call G hr rfl gm gk gb .nil pass0 (pa_cons (pv 1) pa_nil))) pa_nil)))), ?_⟩
    have sq : SqL K H l (xs.map V.str) := SqL.of hl
    have hlen : (xs.map V.str).length = xs.length := List.length_map ..
    have hcl := cntD_le xs
    refine ⟨_, rfl, l, _, rfl, .inl sq, _, _, rfl, rfl, _, rfl, ?_⟩
    rw [hlen]
    by_cases h6 : (6 : Int) < (xs.length : Nat)
    · rw [decide_eq_true h6]
      refine iteT (iteT ?_)
      have := q H (Same.refl H)
      have e : wordsB xs = false := by
        unfold wordsB
        rw [decide_eq_false (by omega), Bool.false_and, Bool.false_and]
      rw [e] at this
      exact this
    · rw [decide_eq_false h6]
      refine iteF ⟨_, rfl, l, xs, rfl, .inl sq, by omega, _, rfl, l, _, rfl, .inl sq, _, _, rfl, rfl, _, rfl, ?_⟩
      rw [hlen]
      by_cases hd : ((cntD xs : Nat) : Int) < (xs.length : Nat)
      · rw [decide_eq_true hd]
        refine iteT ?_
        have := q H (Same.refl H)
        have e : wordsB xs = false := by
          unfold wordsB
          rw [decide_eq_false (p := cntD xs = xs.length) (by omega), Bool.and_false, Bool.false_and]
        rw [e] at this
        exact this
      · rw [decide_eq_false hd]
        refine iteF ?_
        have e : wordsB xs = xs.all wordB := by
          unfold wordsB
          rw [decide_eq_true (p := xs.length ≤ 6) (by omega), decide_eq_true (p := cntD xs = xs.length) (by omega), Bool.true_and, Bool.true_and]
        refine ⟨_, rfl, l, rfl, ⟨_, sq⟩, fun D nD => ?_⟩
        have eD : l ≠ D := ne_of_none hl nD
        refine lc_list (K := K) (a := l) (xs := xs.map V.str) (fun i H2 => Same H H2 ∧ H2 D = some (.lst (((xs.map wordB).take i).map V.bl)))
          ⟨same_new nD, upd_same⟩ (fun i H2 _ h => SqL.of (h.1 _ _ hl)) (fun i v H2 hv h => ?_) (fun H2 h => ?_)
        · obtain ⟨s2, h3⟩ := h
          rw [List.getElem?_map] at hv
          cases hz : xs[i]? with
          | none =>
            rw [hz] at hv
            cases hv
          | some z =>
            rw [hz] at hv
            obtain rfl : V.str z = v := Option.some.inj hv
            have hg : (xs.map wordB)[i]? = some (wordB z) := by
              rw [List.getElem?_map, hz]
              rfl
            refine ⟨rfl, _, rfl, z, rfl, hx z (List.mem_of_getElem? hz), fun H3 s3 => ⟨_, s3 _ _ h3, ?_, ?_, ?_⟩⟩
            · rw [List.length_map, List.length_take, List.length_map]
              exact Nat.lt_of_le_of_lt (Nat.min_le_right _ _) (small1000 (by omega))
            · exact same_put (s2.trans s3) nD
            · rw [upd_same, List.take_add_one, hg, List.map_append]
              rfl
        · obtain ⟨s2, h3⟩ := h
          rw [hlen, ← List.length_map (f := wordB), List.take_length] at h3
          refine ⟨D, xs.map wordB, rfl, SqL.of h3, ?_⟩
          have := q H2 s2
          rw [e] at this
          rw [List.all_map]
          exact this
end
section
variable {P : Program} {w : World} {K : PySem.W.Frag} {mg : Str → Option Value} {base : Heap}
/-! check_parts -/
abbrev sCP : Stmt := topS 15
theorem scCP : FnScope ["words", "low", "high", "span"] ["words", "low", "high", "span"] (defScope sCP) := ⟨rfl, rfl, rfl, by decide +kernel, rfl, by decide +kernel, by decide +kernel⟩
def vI : Option Int → V
  | none => .non
  | some i => .int i
def okStr : V → Prop := fun v => ∃ s : Str, v = .str s ∧ (tl s).length ≤ 10
def lowB (lo : Int) : Bool := decide (0 ≤ lo ∧ lo ≤ 3)
def highB (lo : Int) : Option Int → Bool
  | none => true
  | some h => decide (max 1 lo ≤ h ∧ h ≤ 7)
def spanB : Option Int → Bool
  | none => true
  | some h => decide (1 ≤ h ∧ h ≤ 4)
/-- the first part that no rule has -/
def partBad (xs : List Str) (lo : Int) (hi sp : Option Int) : Option Str :=
  if wordsB xs = true then (if lowB lo = true then (if highB lo hi = true then (if spanB sp = true then none else some (Str.ofString "span")) else some (Str.ofString "high")) else some (Str.ofString "low")) else some (Str.ofString "words")
/-- BadRule with its part -/
def partOut (C : Addr) (p : Option Str) (H : Hp) (E : XK) : Prop := ∀ s : Str, p = some s → ∀ d H', Same H H' → H d = none → H' d = some (.xd [("part", .str s)]) → E (.ref C) (some d) H'
def spCP (C : Addr) : Sp := fun vs H Q E => ∃ (l : Addr) (xs : List Str) (lo : Int) (hi sp : Option Int), vs = [.ref l, .int lo, vI hi, vI sp] ∧ H l = some (.lst (xs.map V.str)) ∧ xs.length ≤ 12100 ∧ (∀ x ∈ xs, (tl x).length ≤ 12000) ∧
  (partBad xs lo hi sp = none → ∀ H', Same H H' → Q .non H') ∧ partOut C (partBad xs lo hi sp) H E
theorem bad_len {xs : List Str} {lo : Int} {hi sp : Option Int} (h : partBad xs lo hi sp = none) : xs.length ≤ 6 := by
  unfold partBad at h
  by_cases hw : wordsB xs = true
  · unfold wordsB at hw
    rw [Bool.and_eq_true, Bool.and_eq_true] at hw
    exact of_decide_eq_true hw.1.1
  · rw [if_neg hw] at h
    cases h
theorem max_if (a b : Int) : (if b > a then b else a) = max a b := by
  by_cases h : b > a
  · rw [if_pos h]
    omega
  · rw [if_neg h]
    omega
theorem ok_cp {f fAW C : Addr} {fd fdAW : FuncData} (F : Fun K "check_parts" "check_parts" sCP f fd) (G : FnOk P w K mg base CX0 3 fAW fdAW ["texts"] spAW) (gm : mg "are_words" = some (.ref fAW)) (gk : PySem.W.keepIn K (.ref fAW) = true) (gb : Binds K fdAW ["texts"] [])
    (mm : mg "max" = none) (NL : Num mg "GREATEST_LOW" 3) (NH : Num mg "GREATEST_HIGH" 7) (NS : Num mg "GREATEST_SPAN" 4) (T : ErrOk P w K mg base "BadRule" "part" C okStr) : FnOk P w K mg base (L2N.CX P w) 4 f fd ["words", "low", "high", "span"] (spCP C) := by
  obtain ⟨uL, mL, rL⟩ := NL
  obtain ⟨uH, mH, rH⟩ := NH
  obtain ⟨uS, mS, rS⟩ := NS
  refine F.okXN scCP (fun vs H Q E h => ?_) (fun cdv A outer s H vs Q E hr h => ?_)
  · obtain ⟨l, xs, lo, hi, sp, rfl, _⟩ := h
    rfl
  · obtain ⟨l, xs, lo, hi, sp, rfl, hl, h60, hx, q1, q2⟩ := h
    refine ⟨_, pss_cons (ps_if (pt_not (pt_val (pe_call G hr rfl gm gk gb .nil pass0 (pa_cons (pv 0) pa_nil)))) (pss_one (L2N.ps_raise rfl (L2N.takes_of rfl rfl rfl rfl) (pmk_errN T (hr.mono (by decide)) rfl pe_str))) pss_nil)
      (pss_cons (ps_if (pt_not (pt_chain op_le op_le pe_int (pv 1) (pe_glob rfl mL rL))) (pss_one (L2N.ps_raise rfl (L2N.takes_of rfl rfl rfl rfl) (pmk_errN T (hr.mono (by decide)) rfl pe_str))) pss_nil)
      (pss_cons (ps_if (PW.pt (pw_and (pt_cmpR op_notN (pv 2) pe_non (nomark _)) (pw_and1 (pt_not (pt_chain op_le op_le (pe_callB (call_max2 rfl) (by rfl) mm (by decide +kernel) (pa_cons pe_int (pa_cons (pv 1) pa_nil))) (pv 2) (pe_glob rfl mH rH)))))) (pss_one (L2N.ps_raise rfl (L2N.takes_of rfl rfl rfl rfl) (pmk_errN T (hr.mono (by decide)) rfl pe_str))) pss_nil)
      (pss_one (ps_if (PW.pt (pw_and (pt_cmpR op_notN (pv 3) pe_non (nomark _)) (pw_and1 (pt_not (pt_chain op_le op_le pe_int (pv 3) (pe_glob rfl mS rS)))))) (pss_one (L2N.ps_raise rfl (L2N.takes_of rfl rfl rfl rfl) (pmk_errN T (hr.mono (by decide)) rfl pe_str))) pss_nil)))), ?_⟩
    refine ⟨_, rfl, l, xs, rfl, hl, h60, hx, fun H1 s1 => ⟨_, rfl, ?_⟩⟩
    have q1' : partBad xs lo hi sp = none → Q .non H1 := fun e => q1 e H1 s1
    have q2' : ∀ s : Str, partBad xs lo hi sp = some s → ∀ d H', Same H1 H' → H1 d = none → H' d = some (.xd [("part", .str s)]) → E (.ref C) (some d) H' := fun s e d H' s2 n e2 => q2 s e d H' (s1.trans s2) (s1.free n) e2
    clear q1 q2
    unfold partBad at q1' q2'
    cases hw : wordsB xs with
    | false =>
      refine iteT (err_read ⟨_, rfl, by decide⟩ fun d H2 s2 nd e2 => ?_)
      rw [if_neg (by rw [hw]; decide)] at q2'
      exact q2' _ rfl d H2 s2 nd e2
    | true =>
      rw [if_pos hw] at q1' q2'
      refine iteF ⟨_, rfl, _, _, rfl, rfl, _, rfl, ?_⟩
      have bad1 : lowB lo = false → ∀ d H2, Same H1 H2 → H1 d = none → H2 d = some (.xd [("part", .str (Str.ofString "low"))]) → E (.ref C) (some d) H2 := fun e d H2 s2 nd e2 => by
        rw [if_neg (by rw [e]; decide)] at q2'
        exact q2' _ rfl d H2 s2 nd e2
      by_cases h0 : (0 : Int) ≤ lo
      · rw [decide_eq_true h0]
        refine iteT ⟨_, _, rfl, rfl, _, rfl, ?_⟩
        by_cases h3 : lo ≤ 3
        · rw [decide_eq_true h3]
          have hlo : lowB lo = true := decide_eq_true ⟨h0, h3⟩
          rw [if_pos hlo] at q1' q2'
          refine iteF ?_
          clear bad1
          have hS : highB lo hi = true → (spanB sp = true → Q .non H1) ∧ (spanB sp = false → ∀ d H2, Same H1 H2 → H1 d = none → H2 d = some (.xd [("part", .str (Str.ofString "span"))]) → E (.ref C) (some d) H2) := fun c => by
            rw [if_pos c] at q1' q2'
            refine ⟨fun z => q1' (if_pos z), fun z d H2 s2 nd e2 => ?_⟩
            rw [if_neg (by rw [z]; decide)] at q2'
            exact q2' _ rfl d H2 s2 nd e2
          have hB : highB lo hi = false → ∀ d H2, Same H1 H2 → H1 d = none → H2 d = some (.xd [("part", .str (Str.ofString "high"))]) → E (.ref C) (some d) H2 := fun z d H2 s2 nd e2 => by
            rw [if_neg (by rw [z]; decide)] at q2'
            exact q2' _ rfl d H2 s2 nd e2
          clear q1' q2'
          cases hi with
          | none =>
            refine ⟨.non, rfl, rfl, _, rfl, iteF (iteF ?_)⟩
            obtain ⟨s1', s2'⟩ := hS rfl
            cases sp with
            | none =>
              exact ⟨.non, rfl, rfl, _, rfl, iteF (iteF (s1' rfl))⟩
            | some k =>
              refine ⟨.int k, rfl, rfl, _, rfl, iteT ⟨_, rfl, _, _, rfl, rfl, _, rfl, ?_⟩⟩
              by_cases k1 : (1 : Int) ≤ k
              · rw [decide_eq_true k1]
                refine iteT ⟨_, _, rfl, rfl, _, rfl, ?_⟩
                by_cases k4 : k ≤ 4
                · rw [decide_eq_true k4]
                  exact iteF (s1' (decide_eq_true ⟨k1, k4⟩))
                · rw [decide_eq_false k4]
                  exact iteT (err_read ⟨_, rfl, by decide⟩ fun d H2 s2 nd e2 => s2' (decide_eq_false (fun z => k4 z.2)) d H2 s2 nd e2)
              · rw [decide_eq_false k1]
                exact iteF ⟨_, rfl, iteT (err_read ⟨_, rfl, by decide⟩ fun d H2 s2 nd e2 => s2' (decide_eq_false (fun z => k1 z.1)) d H2 s2 nd e2)⟩
          | some g =>
            refine ⟨.int g, rfl, rfl, _, rfl, iteT ⟨_, rfl, _, _, rfl, _, rfl, _, _, rfl, rfl, _, rfl, ?_⟩⟩
            rw [max_if]
            by_cases g1 : max 1 lo ≤ g
            · rw [decide_eq_true g1]
              refine iteT ⟨_, _, rfl, rfl, _, rfl, ?_⟩
              by_cases g7 : g ≤ 7
              · rw [decide_eq_true g7]
                refine iteF ?_
                obtain ⟨s1', s2'⟩ := hS (decide_eq_true ⟨g1, g7⟩)
                cases sp with
                | none =>
                  exact ⟨.non, rfl, rfl, _, rfl, iteF (iteF (s1' rfl))⟩
                | some k =>
                  refine ⟨.int k, rfl, rfl, _, rfl, iteT ⟨_, rfl, _, _, rfl, rfl, _, rfl, ?_⟩⟩
                  by_cases k1 : (1 : Int) ≤ k
                  · rw [decide_eq_true k1]
                    refine iteT ⟨_, _, rfl, rfl, _, rfl, ?_⟩
                    by_cases k4 : k ≤ 4
                    · rw [decide_eq_true k4]
                      exact iteF (s1' (decide_eq_true ⟨k1, k4⟩))
                    · rw [decide_eq_false k4]
                      exact iteT (err_read ⟨_, rfl, by decide⟩ fun d H2 s2 nd e2 => s2' (decide_eq_false (fun z => k4 z.2)) d H2 s2 nd e2)
                  · rw [decide_eq_false k1]
                    exact iteF ⟨_, rfl, iteT (err_read ⟨_, rfl, by decide⟩ fun d H2 s2 nd e2 => s2' (decide_eq_false (fun z => k1 z.1)) d H2 s2 nd e2)⟩
              · rw [decide_eq_false g7]
                exact iteT (err_read ⟨_, rfl, by decide⟩ fun d H2 s2 nd e2 => hB (decide_eq_false (fun z => g7 z.2)) d H2 s2 nd e2)
            · rw [decide_eq_false g1]
              exact iteF ⟨_, rfl, iteT (err_read ⟨_, rfl, by decide⟩ fun d H2 s2 nd e2 => hB (decide_eq_false (fun z => g1 z.1)) d H2 s2 nd e2)⟩
        · rw [decide_eq_false h3]
          refine iteT (err_read ⟨_, rfl, by decide⟩ fun d H2 s2 nd e2 => bad1 (decide_eq_false (fun z => h3 z.2)) d H2 s2 nd e2)
      · rw [decide_eq_false h0]
        refine iteF ⟨_, rfl, iteT (err_read ⟨_, rfl, by decide⟩ fun d H2 s2 nd e2 => bad1 (decide_eq_false (fun z => h0 z.1)) d H2 s2 nd e2)⟩
end
end K46

set_option Elab.async false
set_option linter.all false
set_option maxRecDepth 100000
set_option maxHeartbeats 4000000
namespace K46
open PySem PySem.Spec PyProof.Rows L2 Pw TL
section
variable {P : Program} {w : World} {K : PySem.W.Frag} {mg : Str → Option Value} {base : Heap}
/-! Rule.__init__ -/
abbrev sRI : Stmt := inClass (topS 18) 0
theorem scRI : FnScope ["self", "words", "low", "high", "span", "given"] ["self", "words", "low", "high", "span"] (defScope sRI) := ⟨rfl, rfl, rfl, by decide +kernel, rfl, by decide +kernel, by decide +kernel⟩
/-- what the program says of the class Rule -/
structure RuleC (K : PySem.W.Frag) (R : Addr) : Prop where
  c : Cls K R
  n1 : NoAttr K R "barred"
  n2 : NoAttr K R "least_gap"
  n3 : NoAttr K R "most_idle"
  n4 : NoAttr K R "most_swing"
def fsR (p : Addr) (lo : Int) (hi sp : Option Int) : List (Str × V) := [("barred", .ref p), ("least_gap", .int lo), ("most_idle", vI hi), ("most_swing", vI sp)]
/-- a rule at r, its words' list at p -/
def RuleAt (H : Hp) (R r p : Addr) (ys : List Str) (lo : Int) (hi sp : Option Int) : Prop := ∃ dx, H r = some (.ins R dx (fsR p lo hi sp)) ∧ H p = some (.lst (ys.map V.str))
theorem RuleAt.same {H H1 : Hp} {R r p : Addr} {ys : List Str} {lo : Int} {hi sp : Option Int} (h : RuleAt H R r p ys lo hi sp) (s : Same H H1) : RuleAt H1 R r p ys lo hi sp := by
  obtain ⟨dx, h1, h2⟩ := h
  exact ⟨dx, s _ _ h1, s _ _ h2⟩
/-- what is handed in as words -/
def wordsIn (H : Hp) (v : V) (xs : List Str) : Prop := (v = .non ∧ xs = []) ∨ ∃ l, v = .ref l ∧ H l = some (.lst (xs.map V.str))
def spRI (R C : Addr) : Sp := fun vs H Q E => ∃ (a dx : Addr) (wv : V) (xs : List Str) (lo : Int) (hi sp : Option Int), vs = [.ref a, wv, .int lo, vI hi, vI sp] ∧ H a = some (.ins R dx []) ∧ wordsIn H wv xs ∧ xs.length ≤ 12100 ∧ (∀ x ∈ xs, (tl x).length ≤ 12000) ∧
  (partBad xs lo hi sp = none → ∀ ys p H', ys.Perm xs → sortedS ys = true → H p = none → (∀ b o, b ≠ a → H b = some o → H' b = some o) → RuleAt H' R a p ys lo hi sp → Q .non H') ∧ partOut C (partBad xs lo hi sp) H E
theorem ok_ri {f fCP C R : Addr} {fd fdCP : FuncData} {ds : List V} (F : FunD K "__init__" "Rule.__init__" (defArgs sRI) (defBody sRI) (defScope sRI) ds [] f fd) (G : FnOk P w K mg base (L2N.CX P w) 4 fCP fdCP ["words", "low", "high", "span"] (spCP C)) (gm : mg "check_parts" = some (.ref fCP)) (gk : PySem.W.keepIn K (.ref fCP) = true) (gb : Binds K fdCP ["words", "low", "high", "span"] [])
    (ms : mg "sorted" = none) (T : RuleC K R) : FnOk P w K mg base (L2N.CX P w) 5 f fd ["self", "words", "low", "high", "span"] (spRI R C) := by
  refine F.ok scRI (fun vs H Q E h => ?_) (fun cdv A outer s H vs Q E hr h => ?_)
  · obtain ⟨a, dx, wv, xs, lo, hi, sp, rfl, _⟩ := h
    rfl
  · obtain ⟨a, dx, wv, xs, lo, hi, sp, rfl, ha, hw, h60, hx, q1, q2⟩ := h
    refine ⟨_, pss_cons (ps_set (i := 5) scRI.nd rfl (.inl rfl) (pe_ifExp (pt_cmpR op_isN (pv 1) pe_non (nomark _)) (pe_lst pa_nil) (pv 1)))
      (pss_cons (ps_expr (pe_call (E := E) G hr rfl gm gk gb .nil (L2N.passes_call (L2N.takes_of rfl rfl rfl rfl) (fun _ _ _ _ z => z)) (pa_cons (pv 5) (pa_cons (pv 2) (pa_cons (pv 3) (pa_cons (pv 4) pa_nil))))))
      (pss_cons (ps_fld (pv 0) (pe_callB cr_sortedS (by rfl) ms (by decide +kernel) (pa_cons (pv 5) pa_nil)) rfl)
      (pss_cons (ps_fld (pv 0) (pv 2) rfl)
      (pss_cons (ps_fld (pv 0) (pv 3) rfl)
      (pss_one (ps_fld (pv 0) (pv 4) rfl)))))), ?_⟩
    rcases hw with ⟨rfl, rfl⟩ | ⟨l, rfl, hl⟩
    · refine ⟨.non, rfl, rfl, _, rfl, iteT ⟨by show 0 ≤ sizeLine; decide, fun l nl => ?_⟩⟩
      have s0 : Same H (upd H l (.lst [])) := same_new nl
      refine ⟨_, rfl, _, rfl, _, rfl, _, rfl, l, [], lo, hi, sp, rfl, upd_same, h60, hx, fun e H1 s1 => ?_, fun s e d H' s2 n e2 => q2 s e d H' (s0.trans s2) (s0.free n) e2⟩
      have hl1 : H1 l = some (.lst (([] : List Str).map V.str)) := s1 _ _ upd_same
      have ha1 : H1 a = some (.ins R dx []) := (s0.trans s1) _ _ ha
      refine ⟨_, rfl, l, [], rfl, SqL.of hl1, by decide, fun ys p hp hs np => ?_⟩
      have npH : H p = none := (s0.trans s1).free np
      have nea : a ≠ p := ne_of_none ha1 np
      refine ⟨_, rfl, a, R, dx, [], rfl, by rw [upd_ne nea]; exact ha1, T.c, T.n1, by decide, ?_⟩
      refine ⟨_, rfl, _, rfl, a, R, dx, _, rfl, upd_same, T.c, T.n2, by show (1 : Nat) < 1000; decide, ?_⟩
      refine ⟨_, rfl, _, rfl, a, R, dx, _, rfl, upd_same, T.c, T.n3, by show (2 : Nat) < 1000; decide, ?_⟩
      refine ⟨_, rfl, _, rfl, a, R, dx, _, rfl, upd_same, T.c, T.n4, by show (3 : Nat) < 1000; decide, ?_⟩
      refine q1 e ys p _ hp hs npH (fun b o hb hbo => ?_) ⟨dx, upd_same, ?_⟩
      · rw [upd_ne hb, upd_ne hb, upd_ne hb, upd_ne hb, upd_ne (ne_of_none hbo npH)]
        exact (s0.trans s1) _ _ hbo
      · rw [upd_ne nea.symm, upd_ne nea.symm, upd_ne nea.symm, upd_ne nea.symm, upd_same]
    · have nn : decide (V.ref l = V.non) = false := rfl
      refine ⟨.ref l, rfl, rfl, _, rfl, ?_⟩
      rw [nn]
      refine iteF ⟨_, rfl, ?_⟩
      refine ⟨_, rfl, _, rfl, _, rfl, _, rfl, l, xs, lo, hi, sp, rfl, hl, h60, hx, fun e H1 s1 => ?_, q2⟩
      have hl1 : H1 l = some (.lst (xs.map V.str)) := s1 _ _ hl
      have ha1 : H1 a = some (.ins R dx []) := s1 _ _ ha
      refine ⟨_, rfl, l, xs, rfl, SqL.of hl1, by have := bad_len e; omega, fun ys p hp hs np => ?_⟩
      have npH : H p = none := s1.free np
      have nea : a ≠ p := ne_of_none ha1 np
      refine ⟨_, rfl, a, R, dx, [], rfl, by rw [upd_ne nea]; exact ha1, T.c, T.n1, by decide, ?_⟩
      refine ⟨_, rfl, _, rfl, a, R, dx, _, rfl, upd_same, T.c, T.n2, by show (1 : Nat) < 1000; decide, ?_⟩
      refine ⟨_, rfl, _, rfl, a, R, dx, _, rfl, upd_same, T.c, T.n3, by show (2 : Nat) < 1000; decide, ?_⟩
      refine ⟨_, rfl, _, rfl, a, R, dx, _, rfl, upd_same, T.c, T.n4, by show (3 : Nat) < 1000; decide, ?_⟩
      refine q1 e ys p _ hp hs npH (fun b o hb hbo => ?_) ⟨dx, upd_same, ?_⟩
      · rw [upd_ne hb, upd_ne hb, upd_ne hb, upd_ne hb, upd_ne (ne_of_none hbo npH)]
        exact s1 _ _ hbo
      · rw [upd_ne nea.symm, upd_ne nea.symm, upd_ne nea.symm, upd_ne nea.symm, upd_same]
/-! what a rule tells of itself -/
abbrev sMW : Stmt := inClass (topS 18) 1
abbrev sML : Stmt := inClass (topS 18) 2
abbrev sMH : Stmt := inClass (topS 18) 3
abbrev sMS : Stmt := inClass (topS 18) 4
theorem scMW : FnScope ["self"] ["self"] (defScope sMW) := ⟨rfl, rfl, rfl, by decide +kernel, rfl, by decide +kernel, by decide +kernel⟩
theorem scML : FnScope ["self"] ["self"] (defScope sML) := ⟨rfl, rfl, rfl, by decide +kernel, rfl, by decide +kernel, by decide +kernel⟩
theorem scMH : FnScope ["self"] ["self"] (defScope sMH) := ⟨rfl, rfl, rfl, by decide +kernel, rfl, by decide +kernel, by decide +kernel⟩
theorem scMS : FnScope ["self"] ["self"] (defScope sMS) := ⟨rfl, rfl, rfl, by decide +kernel, rfl, by decide +kernel, by decide +kernel⟩
def spMW (R : Addr) : Sp := fun vs H Q _ => ∃ (r p : Addr) (ys : List Str) (lo : Int) (hi sp : Option Int), vs = [.ref r] ∧ RuleAt H R r p ys lo hi sp ∧ ∀ l, H l = none → Q (.ref l) (upd H l (.lst (ys.map V.str)))
def spMO (R : Addr) (g : Int → Option Int → Option Int → V) : Sp := fun vs H Q _ => ∃ (r p : Addr) (ys : List Str) (lo : Int) (hi sp : Option Int), vs = [.ref r] ∧ RuleAt H R r p ys lo hi sp ∧ Q (g lo hi sp) H
theorem ok_mw {f R : Addr} {fd : FuncData} {k : Nat} (F : Fun K "words" "Rule.words" sMW f fd) (T : RuleC K R) (ml : mg "list" = none) : FnOk P w K mg base CX0 (k + 1) f fd ["self"] (spMW R) := by
  refine F.ok scMW (fun vs H Q E h => ?_) (fun cdv A outer s H vs Q E hr h => ?_)
  · obtain ⟨r, p, ys, lo, hi, sp, rfl, _⟩ := h
    rfl
  · obtain ⟨r, p, ys, lo, hi, sp, rfl, ⟨dx, h1, h2⟩, q⟩ := h
    refine ⟨_, pss_one (ps_ret (pe_callTy call_list_of (by rfl) ml (by decide +kernel) (pa_cons (pe_fld (pv 0) rfl) pa_nil))), ?_⟩
    exact ⟨_, rfl, r, R, dx, _, .ref p, rfl, h1, T.c, T.n1, rfl, p, _, rfl, .inl (SqL.of h2), q⟩
theorem ok_ml {f R : Addr} {fd : FuncData} {k : Nat} (F : Fun K "low" "Rule.low" sML f fd) (T : RuleC K R) : FnOk P w K mg base CX0 (k + 1) f fd ["self"] (spMO R fun lo _ _ => .int lo) := by
  refine F.ok scML (fun vs H Q E h => ?_) (fun cdv A outer s H vs Q E hr h => ?_)
  · obtain ⟨r, p, ys, lo, hi, sp, rfl, _⟩ := h
    rfl
  · obtain ⟨r, p, ys, lo, hi, sp, rfl, ⟨dx, h1, h2⟩, q⟩ := h
    exact ⟨_, pss_one (ps_ret (pe_fld (pv 0) rfl)), _, rfl, r, R, dx, _, _, rfl, h1, T.c, T.n2, rfl, q⟩
theorem ok_mh {f R : Addr} {fd : FuncData} {k : Nat} (F : Fun K "high" "Rule.high" sMH f fd) (T : RuleC K R) : FnOk P w K mg base CX0 (k + 1) f fd ["self"] (spMO R fun _ hi _ => vI hi) := by
  refine F.ok scMH (fun vs H Q E h => ?_) (fun cdv A outer s H vs Q E hr h => ?_)
  · obtain ⟨r, p, ys, lo, hi, sp, rfl, _⟩ := h
    rfl
  · obtain ⟨r, p, ys, lo, hi, sp, rfl, ⟨dx, h1, h2⟩, q⟩ := h
    exact ⟨_, pss_one (ps_ret (pe_fld (pv 0) rfl)), _, rfl, r, R, dx, _, _, rfl, h1, T.c, T.n3, rfl, q⟩
theorem ok_ms {f R : Addr} {fd : FuncData} {k : Nat} (F : Fun K "span" "Rule.span" sMS f fd) (T : RuleC K R) : FnOk P w K mg base CX0 (k + 1) f fd ["self"] (spMO R fun _ _ sp => vI sp) := by
  refine F.ok scMS (fun vs H Q E h => ?_) (fun cdv A outer s H vs Q E hr h => ?_)
  · obtain ⟨r, p, ys, lo, hi, sp, rfl, _⟩ := h
    rfl
  · obtain ⟨r, p, ys, lo, hi, sp, rfl, ⟨dx, h1, h2⟩, q⟩ := h
    exact ⟨_, pss_one (ps_ret (pe_fld (pv 0) rfl)), _, rfl, r, R, dx, _, _, rfl, h1, T.c, T.n4, rfl, q⟩
end
end K46

set_option Elab.async false
set_option linter.all false
set_option maxRecDepth 100000
set_option maxHeartbeats 4000000
namespace K46
open PySem PySem.Spec PyProof.Rows L2 Pw TL
section
variable {P : Program} {w : World} {K : PySem.W.Frag} {mg : Str → Option Value} {base : Heap}
theorem pure_ok {x : Str} (h : Pw.Pure (tl x)) : PyData.strOk x = true := by
  unfold PyData.strOk
  rw [Array.all_eq_true_iff_forall_mem]
  intro c hc
  have h2 := h c (Array.mem_toList_iff.mpr hc)
  rcases h2 with rfl | rfl <;> decide
theorem word_of {x : Str} (h : Pw.Pure (tl x)) (h1 : 1 ≤ (tl x).length) (h5 : (tl x).length ≤ 5) : wordB x = true := by
  unfold wordB
  rw [strange_none h, decide_eq_true ⟨h1, h5⟩]
  rfl
theorem eqV_str (a b : Str) : eqV (.str a) (.str b) = true ↔ a = b := by
  show (a == b) = true ↔ a = b
  exact beq_iff_eq
theorem inV_str (x : Str) (xs : List Str) : inV (.str x) (xs.map V.str) = true ↔ x ∈ xs := by
  unfold inV
  rw [List.any_eq_true]
  constructor
  · rintro ⟨y, h1, h2⟩
    obtain ⟨z, h3, rfl⟩ := List.mem_map.mp h1
    have := (eqV_str z x).mp h2
    rw [← this]
    exact h3
  · intro h
    exact ⟨.str x, List.mem_map.mpr ⟨x, h, rfl⟩, (eqV_str x x).mpr rfl⟩
/-! _law_word -/
abbrev sWD : Stmt := topS 41
theorem scWD : FnScope ["_law_draw"] ["_law_draw"] (defScope sWD) := ⟨rfl, rfl, rfl, by decide +kernel, rfl, by decide +kernel, by decide +kernel⟩
def spWD : Sp := fun vs H Q _ => ∃ (p q : Addr) (ns : List Int), vs = [.ref p] ∧ Dr p q ns H ∧ ∀ (x : Str) H', (tl x).length ≤ 5 → PyData.strOk x = true → wordB x = true → SameX p H H' → Dr p q ns H' → Q (.str x) H'
theorem Dr.nn {p q : Addr} {ns : List Int} {H : Hp} (h : Dr p q ns H) {a : Addr} (n : H a = none) : a ≠ p := fun e => by
  obtain ⟨_, _, _, _, hp, _⟩ := h
  rw [e, hp] at n
  cases n
theorem ok_wd {f fW : Addr} {fd fdW : FuncData} (F : Fun K "_law_word" "_law_word" sWD f fd) (R : PUOk P w K mg base) (GW : FnOk P w K mg base CX0 2 fW fdW ["_law_draw", "_law_many"] spRO) (wm : mg "_law_row" = some (.ref fW)) (wk : PySem.W.keepIn K (.ref fW) = true) (wb : Binds K fdW ["_law_draw", "_law_many"] []) :
    FnOk P w K mg base CX0 3 f fd ["_law_draw"] spWD := by
  obtain ⟨fR, fdR, G, gm, gk, gb⟩ := R.ex
  refine F.ok scWD (fun vs H Q E h => ?_) (fun cdv A outer s H vs Q E hr h => ?_)
  · obtain ⟨p, q, ns, rfl, _⟩ := h
    rfl
  · obtain ⟨p, q, ns, rfl, hD, k⟩ := h
    have hr1 : Room 1 _ := hr.mono (by decide)
    refine ⟨_, pss_one (ps_ret (pe_call GW hr rfl wm wk wb .nil pass0 (pa_cons (pv 0) (pa_cons (pe_op op_add pe_int (pe_call G hr1 rfl gm gk gb .nil pass0 (pa_cons (pv 0) (pa_cons (pe_ix ix_tup (pe_tup (pa_cons pe_int (pa_cons pe_int pa_nil))) (pe_call G hr1 rfl gm gk gb .nil pass0 (pa_cons (pv 0) (pa_cons pe_int pa_nil))) (fun _ _ => rfl)) pa_nil)))) pa_nil)))), ?_⟩
    refine ⟨.ref p, rfl, .ref p, rfl, by show 2 ≤ sizeLine; decide, fun T nT => ?_⟩
    have hD0 : Dr p q ns (upd H T (.tup [.int 3, .int 5])) := hD.same (same_new nT)
    have sx0 : SameX p H (upd H T (.tup [.int 3, .int 5])) := SameX.of (same_new nT)
    refine ⟨.ref p, rfl, p, q, ns, 2, rfl, by decide, by decide, hD0, fun v H1 v0 v1 sx1 hD1 => ?_⟩
    have hT : H1 T = some (.tup [.int 3, .int 5]) := sx1 _ _ upd_same (hD.nn nT)
    have hm : ∃ m : Int, atI [V.int 3, V.int 5] v = some (.int m) ∧ 0 < m ∧ m ≤ 5 := by
      have : v = 0 ∨ v = 1 := by omega
      rcases this with rfl | rfl
      · exact ⟨3, rfl, by decide, by decide⟩
      · exact ⟨5, rfl, by decide, by decide⟩
    obtain ⟨m, hm, m0, m5⟩ := hm
    refine ⟨T, _, v, .int m, rfl, rfl, .inl (.inl hT), hm, p, q, ns, m, rfl, m0, by omega, hD1, fun u H2 u0 u1 sx2 hD2 => ?_⟩
    have ev : (1 : Int) + u = (((1 + u).toNat : Nat) : Int) := by omega
    refine ⟨1, u, rfl, rfl, p, q, ns, (1 + u).toNat, ?_, by omega, hD2, fun x H3 hx hxl sx3 hD3 => ?_⟩
    · rw [← ev]
      rfl
    · exact k x H3 (by omega) (pure_ok hx) (word_of hx (by omega) (by omega)) (((sx0.trans sx1).trans sx2).trans sx3) hD3
theorem Dr.upd {p q l : Addr} {ns : List Int} {H : Hp} {o : HO} (h : Dr p q ns H) (n1 : l ≠ p) (n2 : l ≠ q) : Dr p q ns (L2.upd H l o) :=
  ⟨by rw [upd_ne n2.symm]; exact h.1, let ⟨a, b, c, e, r⟩ := h.2; ⟨a, b, c, by rw [upd_ne n1.symm]; exact e, r⟩⟩
/-! _law_words -/
abbrev sWS : Stmt := topS 42
theorem scWS : FnScope ["_law_draw", "_law_most", "_law_found", "_law_many", "_law_k", "_law_word_here"] ["_law_draw", "_law_most"] (defScope sWS) := ⟨rfl, rfl, rfl, by decide +kernel, rfl, by decide +kernel, by decide +kernel⟩
def Short (xs : List Str) : Prop := ∀ x ∈ xs, (tl x).length ≤ 20 ∧ PyData.strOk x = true
def Good (xs : List Str) : Prop := xs.Nodup ∧ ∀ x ∈ xs, wordB x = true
def ShortG (xs : List Str) : Prop := Short xs ∧ Good xs
def spWS : Sp := fun vs H Q _ => ∃ (p q : Addr) (ns : List Int) (n : Nat), vs = [.ref p, .int (n : Nat)] ∧ n ≤ 20 ∧ Dr p q ns H ∧ ∀ (l : Addr) (xs : List Str) H', xs.length ≤ 6 → ShortG xs → H l = none → H' l = some (.lst (xs.map V.str)) → SameX p H H' → Dr p q ns H' → Q (.ref l) H'
theorem flat_strs (xs : List Str) : (xs.map V.str).all flatV = true := by
  induction xs with
  | nil => rfl
  | cons x r ih =>
    rw [List.map_cons, List.all_cons, ih]
    rfl
theorem ok_ws {f fW : Addr} {fd fdW : FuncData} (F : Fun K "_law_words" "_law_words" sWS f fd) (B : BN mg) (R : PUOk P w K mg base) (GW : FnOk P w K mg base CX0 3 fW fdW ["_law_draw"] spWD) (wm : mg "_law_word" = some (.ref fW)) (wk : PySem.W.keepIn K (.ref fW) = true) (wb : Binds K fdW ["_law_draw"] []) :
    FnOk P w K mg base CX0 4 f fd ["_law_draw", "_law_most"] spWS := by
  obtain ⟨fR, fdR, G, gm, gk, gb⟩ := R.ex
  refine F.ok scWS (fun vs H Q E h => ?_) (fun cdv A outer s H vs Q E hr h => ?_)
  · obtain ⟨p, q, ns, n, rfl, _⟩ := h
    rfl
  · obtain ⟨p, q, ns, n, rfl, hn, hD, k⟩ := h
    have hr1 : Room 1 _ := hr.mono (by decide)
    refine ⟨_, pss_cons (ps_set (i := 2) scWS.nd rfl (.inl rfl) (pe_lst pa_nil))
      (pss_cons (ps_set (i := 3) scWS.nd rfl (.inl rfl) (pe_op op_add (pe_call G hr1 rfl gm gk gb .nil pass0 (pa_cons (pv 0) (pa_cons (pe_op op_add (pv 1) pe_int) pa_nil)))
        (pe_op op_mul pe_int (pe_callTy call_int1 (by rfl) B.int (by decide +kernel) (pa_cons (pe_cmpR op_eq (pe_call G hr1 rfl gm gk gb .nil pass0 (pa_cons (pv 0) (pa_cons pe_int pa_nil))) pe_int (nomark _)) pa_nil)))))
      (pss_cons (ps_for PassesOwn.never rfl (pi_range1 rfl B.rng (pa_cons (pv 3) pa_nil)) (pg_name (i := 4) scWS.nd rfl (.inl rfl))
        (pss_cons (ps_set (i := 5) scWS.nd rfl (.inl rfl) (pe_call GW hr rfl wm wk wb .nil pass0 (pa_cons (pv 0) pa_nil)))
        (pss_one (ps_if (PW.pt (pw_and (pt_cmpR op_notIn_seq (pv 5) (pv 2) (by rfl)) (pw_and1 (pt_cmpR op_gt (pe_callB call_len_str (by rfl) B.len PySem.boot_len (pa_cons (pv 5) pa_nil)) pe_int (nomark _)))))
          (pss_one (ps_expr (pe_bm PySem.F.plainAttrs_list PySem.F.slot_list_append PySem.F.type_list_append mt_append (pv 2) (pa_cons (pv 5) pa_nil)))) pss_nil))))
      (pss_one (ps_ret (pe_slice sl_list (pv 2) po_none (po_some pe_int)))))), ?_⟩
    refine ⟨by show 0 ≤ sizeLine; decide, fun l nl => ?_⟩
    have lp : l ≠ p := hD.nn nl
    have hD0 : Dr p q ns (upd H l (.lst [])) := hD.same (same_new nl)
    refine ⟨.ref p, rfl, _, rfl, _, 1, rfl, rfl, p, q, ns, (n : Int) + 1, rfl, by omega, by omega, hD0, fun v H1 v0 v1 sx1 hD1 => ?_⟩
    refine ⟨.ref p, rfl, p, q, ns, 8, rfl, by decide, by decide, hD1, fun u H2 _ _ sx2 hD2 => ?_⟩
    obtain ⟨m, em, hm⟩ : ∃ m : Nat, v + 2 * (if decide (V.int u = V.int 0) = true then (1 : Int) else 0) = (m : Int) ∧ m ≤ 22 := by
      refine ⟨(v + 2 * (if decide (V.int u = V.int 0) = true then (1 : Int) else 0)).toNat, ?_, ?_⟩ <;> split <;> omega
    refine ⟨rfl, .inr ⟨_, rfl, 2, _, rfl, rfl, ?_, v, _, rfl, rfl, ?_⟩⟩
    · exact .inl ⟨by decide, by decide⟩
    dsimp only
    rw [em]
    have sx : SameX p (upd H l (.lst [])) H2 := sx1.trans sx2
    have nlp : upd H l (.lst []) l = some (.lst (([] : List Str).map V.str)) := upd_same
    refine ⟨_, rfl, (m : Int), rfl, by omega, by omega, for_range (lo := 0) (n := m) (fun i σ H3 => (∃ y4 y5, σ = [some (.ref p), some (.int (n : Nat)), some (.ref l), some (.int (m : Nat)), y4, y5]) ∧ Dr p q ns H3 ∧ (∃ xs : List Str, H3 l = some (.lst (xs.map V.str)) ∧ xs.length ≤ i ∧ ShortG xs) ∧ (∀ b o, H b = some o → b ≠ p → H3 b = some o))
      ⟨⟨none, none, rfl⟩, hD2, ⟨[], sx _ _ nlp lp, Nat.le_refl _, (fun x hx => nomatch hx), List.nodup_nil, fun x hx => nomatch hx⟩, fun b o e ne => sx b o ((same_new nl) b o e) ne⟩ (fun i σ H3 _ h => ?_) (fun σ H3 h => ?_)⟩
    · obtain ⟨⟨y4, y5, rfl⟩, hD3, ⟨xs, hl3, hxi, hxs⟩, fr⟩ := h
      refine ⟨.ref p, rfl, p, q, ns, rfl, hD3, fun x H4 hx hok4 hwx sx4 hD4 => ?_⟩
      have hl4 : H4 l = some (.lst (xs.map V.str)) := sx4 _ _ hl3 lp
      have hz : x.length ≤ sizeLine := by
        rw [len_tl]
        exact Nat.le_of_lt (small1000 (by omega))
      have out : (∃ y4 y5, [some (V.ref p), some (.int (n : Nat)), some (.ref l), some (.int (m : Nat)), some (.int (0 + (i : Int))), some (.str x)] = [some (V.ref p), some (.int (n : Nat)), some (.ref l), some (.int (m : Nat)), y4, y5]) ∧ Dr p q ns H4 ∧ (∃ xs : List Str, H4 l = some (.lst (xs.map V.str)) ∧ xs.length ≤ i + 1 ∧ ShortG xs) ∧ (∀ b o, H b = some o → b ≠ p → H4 b = some o) :=
        ⟨⟨_, _, rfl⟩, hD4, ⟨xs, hl4, by omega, hxs⟩, fun b o e ne => sx4 b o (fr b o e ne) ne⟩
      refine ⟨_, rfl, _, rfl, l, _, rfl, .inl (SqL.of hl4), rfl, flat_strs xs, _, rfl, ite2 (fun hni => ?_) (fun _ => iteF out)⟩
      have hni' : x ∉ xs := fun z => by
        have h1 := (inV_str x xs).mpr z
        have h2 : (!inV (.str x) (xs.map V.str)) = true := hni
        rw [h1] at h2
        cases h2
      refine ⟨_, rfl, x, rfl, hz, _, _, rfl, rfl, _, rfl, ite2 (fun _ => ?_) (fun _ => out)⟩
      refine ⟨.ref l, rfl, .inl ⟨rfl, _, SqL.of hl4⟩, _, rfl, l, _, _, rfl, rfl, hl4, ?_, ?_⟩
      · rw [List.length_map]
        exact small1000 (by omega)
      · refine ⟨⟨_, _, rfl⟩, ?_, ⟨xs ++ [x], ?_, ?_, ?_⟩, fun b o e ne => ?_⟩
        · exact hD4.upd lp (ne_of_none hD.1 nl).symm
        · rw [upd_same, List.map_append]
          rfl
        · rw [List.length_append]
          show xs.length + 1 ≤ i + 1
          omega
        · refine ⟨fun z hz2 => ?_, ?_, fun z hz2 => ?_⟩
          · rcases List.mem_append.mp hz2 with h | h
            · exact hxs.1 z h
            · rw [List.mem_singleton.mp h]
              exact ⟨by omega, hok4⟩
          · rw [List.nodup_append]
            refine ⟨hxs.2.1, List.nodup_cons.mpr ⟨(fun z => nomatch z), List.nodup_nil⟩, fun a ha b hb e => ?_⟩
            rw [List.mem_singleton.mp hb] at e
            exact hni' (e ▸ ha)
          · rcases List.mem_append.mp hz2 with h | h
            · exact hxs.2.2 z h
            · rw [List.mem_singleton.mp h]
              exact hwx
        · rw [upd_ne (ne_of_none e nl)]
          exact sx4 b o (fr b o e ne) ne
    · obtain ⟨⟨y4, y5, rfl⟩, hD3, ⟨xs, hl3, hxi, hxs⟩, fr⟩ := h
      refine ⟨.ref l, rfl, 6, rfl, l, _, rfl, SqL.of hl3, fun t nt => ?_⟩
      have ec : cutV (xs.map V.str) none (some 6) = (xs.take 6).map V.str := by
        unfold cutV
        rw [show HT.sIx (xs.map V.str).length (xs.map V.str).length (some 6) = min 6 (xs.map V.str).length from HT.sIx_nat _ _ 6]
        show List.take (min 6 (xs.map V.str).length - 0) (xs.map V.str) = _
        rw [Nat.sub_zero, List.map_take]
        exact (List.take_eq_take_min).symm
      rw [ec]
      have tH : H t = none := by
        cases e : H t with
        | none => rfl
        | some o =>
          by_cases ht : t = p
          · exact absurd ht (hD3.nn nt)
          · rw [fr t o e ht] at nt
            cases nt
      refine k t (xs.take 6) _ ?_ ⟨fun z hz => hxs.1 z (List.mem_of_mem_take hz), hxs.2.1.sublist (List.take_sublist _ _), fun z hz => hxs.2.2 z (List.mem_of_mem_take hz)⟩ tH upd_same ?_ (hD3.same (same_new nt))
      · rw [List.length_take]
        omega
      · exact SameX.new (fun b o e ne => fr b o e ne) nt
end
section
variable {P : Program} {w : World} {K : PySem.W.Frag} {mg : Str → Option Value} {base : Heap}
/-- since H only the draw has moved on, and new things were made -/
structure Go (p q : Addr) (ns : List Int) (H H1 : Hp) : Prop where
  sx : SameX p H H1
  dr : Dr p q ns H1
theorem Go.refl {p q : Addr} {ns : List Int} {H : Hp} (h : Dr p q ns H) : Go p q ns H H := ⟨SameX.refl p H, h⟩
theorem Go.next {p q : Addr} {ns : List Int} {H H1 H2 : Hp} (g : Go p q ns H H1) (s : SameX p H1 H2) (d : Dr p q ns H2) : Go p q ns H H2 := ⟨g.sx.trans s, d⟩
theorem Go.new {p q T : Addr} {ns : List Int} {H H1 : Hp} {o : HO} (g : Go p q ns H H1) (n : H1 T = none) : Go p q ns H (upd H1 T o) := ⟨g.sx.new n, g.dr.same (same_new n)⟩
theorem Go.free {p q T : Addr} {ns : List Int} {H H1 : Hp} (g : Go p q ns H H1) (n : H1 T = none) : H T = none := by
  cases e : H T with
  | none => rfl
  | some o =>
    by_cases h : T = p
    · exact absurd h (g.dr.nn n)
    · rw [g.sx T o e h] at n
      cases n
theorem Go.put {p q T : Addr} {ns : List Int} {H H1 : Hp} {o : HO} (g : Go p q ns H H1) (n : H T = none) (np : T ≠ p) (nq : T ≠ q) : Go p q ns H (upd H1 T o) :=
  ⟨fun b x e ne => by rw [upd_ne (ne_of_none e n)]; exact g.sx b x e ne, g.dr.upd np nq⟩
theorem Go.keep {p q T : Addr} {ns : List Int} {H H1 : Hp} {o : HO} (g : Go p q ns H H1) (e : H T = some o) (n : T ≠ p) : H1 T = some o := g.sx T o e n
/-! _law_parts -/
abbrev sPA : Stmt := topS 43
theorem scPA : FnScope ["_law_draw", "_law_way", "_law_least", "_law_upper", "_law_bars", "_law_wide"] ["_law_draw"] (defScope sPA) := ⟨rfl, rfl, rfl, by decide +kernel, rfl, by decide +kernel, by decide +kernel⟩
/-- four parts as a tuple at T, its words as a tuple at t -/
def Parts (H : Hp) (T t : Addr) (xs : List Str) (lo : Int) (hi wd : Option Int) : Prop := H T = some (.tup [.ref t, .int lo, vI hi, vI wd]) ∧ H t = some (.tup (xs.map V.str))
def spPA (N : Nat) : Sp := fun vs H Q _ => ∃ (p q : Addr) (ns : List Int), vs = [.ref p] ∧ Dr p q ns H ∧ ∀ (T t : Addr) (xs : List Str) (lo : Int) (hi wd : Option Int) H', xs.length ≤ N → ShortG xs → sortedS xs = true → partBad xs lo hi wd = none → H T = none → H t = none → Parts H' T t xs lo hi wd → Go p q ns H H' → Q (.ref T) H'
theorem parts_ok {xs : List Str} {lo : Int} {hi wd : Option Int} (h6 : xs.length ≤ 6) (hg : Good xs) (l0 : 0 ≤ lo) (l4 : lo < 4) (hh : ∀ h, hi = some h → max 1 lo ≤ h ∧ h ≤ 7) (hw : ∀ k, wd = some k → 1 ≤ k ∧ k ≤ 4) : partBad xs lo hi wd = none := by
  have e1 : wordsB xs = true := by
    unfold wordsB
    rw [decide_eq_true h6, decide_eq_true ((cntD_nodup xs).mpr hg.1)]
    exact List.all_eq_true.mpr hg.2
  have e2 : lowB lo = true := decide_eq_true ⟨l0, by omega⟩
  have e3 : highB lo hi = true := by
    cases hi with
    | none => rfl
    | some h => exact decide_eq_true (hh h rfl)
  have e4 : spanB wd = true := by
    cases wd with
    | none => rfl
    | some h => exact decide_eq_true (hw h rfl)
  unfold partBad
  rw [if_pos e1, if_pos e2, if_pos e3, if_pos e4]
def inTup (ps : List Int) (v : Int) : Bool := inV (.int v) (ps.map V.int)
theorem flat_ints (xs : List Int) : (xs.map V.int).all flatV = true := by
  induction xs with
  | nil => rfl
  | cons x r ih =>
    rw [List.map_cons, List.all_cons, ih]
    rfl
theorem ok_pa {f fW : Addr} {fd fdW : FuncData} (F : Fun K "_law_parts" "_law_parts" sPA f fd) (B : BN mg) (ms : mg "sorted" = none) (R : PUOk P w K mg base) (GW : FnOk P w K mg base CX0 4 fW fdW ["_law_draw", "_law_most"] spWS) (wm : mg "_law_words" = some (.ref fW)) (wk : PySem.W.keepIn K (.ref fW) = true) (wb : Binds K fdW ["_law_draw", "_law_most"] []) :
    FnOk P w K mg base CX0 5 f fd ["_law_draw"] (spPA 6) := by
  obtain ⟨fR, fdR, G, gm, gk, gb⟩ := R.ex
  refine F.ok scPA (fun vs H Q E h => ?_) (fun cdv A outer s H vs Q E hr h => ?_)
  · obtain ⟨p, q, ns, rfl, _⟩ := h
    rfl
  · obtain ⟨p, q, ns, rfl, hD, k⟩ := h
    have hr1 : Room 1 _ := hr.mono (by decide)
    refine ⟨_, pss_cons (ps_set (i := 1) scPA.nd rfl (.inl rfl) (pe_call G hr1 rfl gm gk gb .nil pass0 (pa_cons (pv 0) (pa_cons pe_int pa_nil))))
      (C8.pss_cut (ps_set (i := 2) scPA.nd rfl (.inl rfl) (pe_ifExp (pt_cmpR op_in_seq (pv 1) (pe_tup (pa_cons pe_int (pa_cons pe_int (pa_cons pe_int (pa_cons pe_int (pa_cons pe_int pa_nil)))))) (by rfl)) (pe_call G hr1 rfl gm gk gb .nil pass0 (pa_cons (pv 0) (pa_cons pe_int pa_nil))) pe_int))
      (pss_cons (ps_set (i := 3) scPA.nd rfl (.inl rfl) pe_non)
      (C8.pss_cut (ps_if (PW.pt (pw_or (pt_cmpR op_in_seq (pv 1) (pe_tup (pa_cons pe_int (pa_cons pe_int (pa_cons pe_int pa_nil)))) (by rfl)) (pw_or1 (PW.pt (pw_and (pt_cmpR op_in_seq (pv 1) (pe_tup (pa_cons pe_int (pa_cons pe_int (pa_cons pe_int pa_nil)))) (by rfl))
          (pw_and1 (pt_cmpR op_eq (pe_call G hr1 rfl gm gk gb .nil pass0 (pa_cons (pv 0) (pa_cons pe_int pa_nil))) pe_int (nomark _))))))))
        (pss_one (ps_set (i := 3) scPA.nd rfl (.inl rfl) (pe_op op_add (pe_callB (call_max2 rfl) (by rfl) B.max (by decide +kernel) (pa_cons pe_int (pa_cons (pv 2) pa_nil))) (pe_call G hr1 rfl gm gk gb .nil pass0 (pa_cons (pv 0) (pa_cons (pe_op op_sub pe_int (pe_callB (call_max2 rfl) (by rfl) B.max (by decide +kernel) (pa_cons pe_int (pa_cons (pv 2) pa_nil)))) pa_nil)))))) pss_nil)
      (C8.pss_cut (ps_set (i := 4) scPA.nd rfl (.inl rfl) (pe_ifExp (pt_cmpR op_in_seq (pv 1) (pe_tup (pa_cons pe_int (pa_cons pe_int (pa_cons pe_int (pa_cons pe_int (pa_cons pe_int pa_nil)))))) (by rfl)) (pe_call GW hr rfl wm wk wb .nil pass0 (pa_cons (pv 0) (pa_cons pe_int pa_nil))) (pe_lst pa_nil)))
      (C8.pss_cut (ps_set (i := 5) scPA.nd rfl (.inl rfl) (pe_ifExp (pt_cmpR op_in_seq (pv 1) (pe_tup (pa_cons pe_int (pa_cons pe_int (pa_cons pe_int (pa_cons pe_int pa_nil))))) (by rfl)) (pe_op op_add pe_int (pe_call G hr1 rfl gm gk gb .nil pass0 (pa_cons (pv 0) (pa_cons pe_int pa_nil)))) pe_non))
      (pss_one (ps_ret (pe_tup (pa_cons (pe_callTy call_tuple_of (by rfl) B.tup (by decide +kernel) (pa_cons (pe_callB cr_sortedS (by rfl) ms (by decide +kernel) (pa_cons (pv 4) pa_nil)) pa_nil)) (pa_cons (pv 2) (pa_cons (pv 3) (pa_cons (pv 5) pa_nil)))))))))))), ?_⟩
    refine ⟨.ref p, rfl, p, q, ns, 10, rfl, by decide, by decide, hD, fun v H1 v0 v1 sx1 hD1 => ?_⟩
    have g1 := (Go.refl hD).next sx1 hD1
    refine ⟨fun σ H2 => (∃ lo : Int, 0 ≤ lo ∧ lo < 4 ∧ σ = [some (.ref p), some (.int v), some (.int lo), none, none, none]) ∧ Go p q ns H H2, ?_, ?_⟩
    · refine ⟨.int v, rfl, by show 5 ≤ sizeLine; decide, fun T nT => ?_⟩
      have g2 := g1.new (o := .tup [.int 0, .int 1, .int 2, .int 8, .int 9]) nT
      refine ⟨T, _, rfl, .inr (.inl (.inl upd_same)), rfl, flat_ints [0, 1, 2, 8, 9], _, rfl, ite2 (fun _ => ?_) (fun _ => ?_)⟩
      · exact ⟨.ref p, rfl, p, q, ns, 4, rfl, by decide, by decide, g2.dr, fun u H3 u0 u1 sx3 hD3 => ⟨⟨u, u0, u1, rfl⟩, g2.next sx3 hD3⟩⟩
      · exact ⟨⟨0, by decide, by decide, rfl⟩, g2⟩
    rintro σ H2 ⟨⟨lo, lo0, lo4, rfl⟩, g2⟩
    refine ⟨fun σ H3 => (∃ hi : Option Int, (∀ h, hi = some h → max 1 lo ≤ h ∧ h ≤ 7) ∧ σ = [some (.ref p), some (.int v), some (.int lo), some (vI hi), none, none]) ∧ Go p q ns H H3, ?_, ?_⟩
    · refine ⟨.int v, rfl, by show 3 ≤ sizeLine; decide, fun T nT => ?_⟩
      have g3 := g2.new (o := .tup [.int 0, .int 2, .int 6]) nT
      refine ⟨T, _, rfl, .inr (.inl (.inl upd_same)), rfl, flat_ints [0, 2, 6], _, rfl, ite2 (fun _ => ?_) (fun _ => ?_)⟩
      · refine iteT ?_
        refine ⟨_, rfl, 1, lo, rfl, .ref p, rfl, _, rfl, 1, lo, rfl, 8, _, rfl, rfl, p, q, ns, _, rfl, ?_, ?_, g3.dr, fun u H5 u0 u1 sx5 hD5 => ⟨_, _, rfl, rfl, ⟨some _, (fun h e => ?_), rfl⟩, g3.next sx5 hD5⟩⟩
        · split <;> omega
        · split <;> omega
        · rw [← Option.some.inj e]
          split at u1 <;> split <;> omega
      · refine ⟨.int v, rfl, by show 3 ≤ sizeLine; decide, fun T2 nT2 => ?_⟩
        have g4 := g3.new (o := .tup [.int 3, .int 8, .int 9]) nT2
        refine ⟨T2, _, rfl, .inr (.inl (.inl upd_same)), rfl, flat_ints [3, 8, 9], _, rfl, ite2 (fun _ => ?_) (fun _ => iteF ⟨⟨none, (fun h e => nomatch e), rfl⟩, g4⟩)⟩
        refine ⟨.ref p, rfl, p, q, ns, 2, rfl, by decide, by decide, g4.dr, fun z H4 _ _ sx4 hD4 => ⟨rfl, _, rfl, ite2 (fun _ => ?_) (fun _ => ⟨⟨none, (fun h e => nomatch e), rfl⟩, g4.next sx4 hD4⟩)⟩⟩
        have g5 := g4.next sx4 hD4
        refine ⟨_, rfl, 1, lo, rfl, .ref p, rfl, _, rfl, 1, lo, rfl, 8, _, rfl, rfl, p, q, ns, _, rfl, ?_, ?_, g5.dr, fun u H5 u0 u1 sx5 hD5 => ⟨_, _, rfl, rfl, ⟨some _, (fun h e => ?_), rfl⟩, g5.next sx5 hD5⟩⟩
        · split <;> omega
        · split <;> omega
        · rw [← Option.some.inj e]
          split at u1 <;> split <;> omega
    rintro σ H3 ⟨⟨hi, hhi, rfl⟩, g3⟩
    refine ⟨fun σ H4 => (∃ (l : Addr) (xs : List Str), σ = [some (.ref p), some (.int v), some (.int lo), some (vI hi), some (.ref l), none] ∧ H4 l = some (.lst (xs.map V.str)) ∧ l ≠ p ∧ xs.length ≤ 6 ∧ ShortG xs) ∧ Go p q ns H H4, ?_, ?_⟩
    · refine ⟨.int v, rfl, by show 5 ≤ sizeLine; decide, fun T nT => ?_⟩
      have g4 := g3.new (o := .tup [.int 2, .int 3, .int 4, .int 7, .int 9]) nT
      refine ⟨T, _, rfl, .inr (.inl (.inl upd_same)), rfl, flat_ints [2, 3, 4, 7, 9], _, rfl, ite2 (fun _ => ?_) (fun _ => ?_)⟩
      · exact ⟨.ref p, rfl, p, q, ns, 4, rfl, by decide, g4.dr, fun l xs H5 h6 hs nl hl sx5 hD5 => ⟨⟨l, xs, rfl, hl, g4.dr.nn nl, h6, hs⟩, g4.next sx5 hD5⟩⟩
      · exact ⟨by show 0 ≤ sizeLine; decide, fun l nl => ⟨⟨l, [], rfl, upd_same, g4.dr.nn nl, by decide, (fun x hx => nomatch hx), List.nodup_nil, fun x hx => nomatch hx⟩, g4.new nl⟩⟩
    rintro σ H4 ⟨⟨l, xs, rfl, hl, lp, h6, hs⟩, g4⟩
    refine ⟨fun σ H5 => (∃ wd : Option Int, (∀ k, wd = some k → 1 ≤ k ∧ k ≤ 4) ∧ σ = [some (.ref p), some (.int v), some (.int lo), some (vI hi), some (.ref l), some (vI wd)]) ∧ H5 l = some (.lst (xs.map V.str)) ∧ Go p q ns H H5, ?_, ?_⟩
    · refine ⟨.int v, rfl, by show 4 ≤ sizeLine; decide, fun T nT => ?_⟩
      have g5 := g4.new (o := .tup [.int 5, .int 7, .int 8, .int 9]) nT
      have hl5 : upd H4 T (.tup [.int 5, .int 7, .int 8, .int 9]) l = some (.lst (xs.map V.str)) := same_new nT _ _ hl
      refine ⟨T, _, rfl, .inr (.inl (.inl upd_same)), rfl, flat_ints [5, 7, 8, 9], _, rfl, ite2 (fun _ => ?_) (fun _ => ?_)⟩
      · exact ⟨.ref p, rfl, p, q, ns, 4, rfl, by decide, by decide, g5.dr, fun u H6 u0 u1 sx6 hD6 => ⟨_, _, rfl, rfl, ⟨some _, (fun h e => by rw [← Option.some.inj e]; omega), rfl⟩, sx6 _ _ hl5 lp, g5.next sx6 hD6⟩⟩
      · exact ⟨⟨none, (fun h e => nomatch e), rfl⟩, hl5, g5⟩
    rintro σ H5 ⟨⟨wd, hwd, rfl⟩, hl5, g5⟩
    refine ⟨_, rfl, l, xs, rfl, SqL.of hl5, by omega, fun ys a hp hsrt na => ?_⟩
    have g6 := g5.new (o := .lst (ys.map V.str)) na
    refine ⟨a, _, rfl, .inl ⟨SqL.of upd_same, fun t nt => ?_⟩⟩
    have g7 := g6.new (o := .tup (ys.map V.str)) nt
    refine ⟨_, rfl, _, rfl, _, rfl, by show 4 ≤ sizeLine; decide, fun T nT => ?_⟩
    have e : t ≠ T := ne_of_none upd_same nT
    have hgy : Good ys := ⟨hp.nodup_iff.mpr hs.2.1, fun z hz => hs.2.2 z (hp.mem_iff.mp hz)⟩
    refine k T t ys lo hi wd _ ?_ ⟨fun z hz => hs.1 z (hp.mem_iff.mp hz), hgy⟩ hsrt (parts_ok (by rw [hp.length_eq]; exact h6) hgy lo0 lo4 hhi hwd) (g7.free nT) (g6.free nt) ⟨upd_same, ?_⟩ (g7.new nT)
    · rw [hp.length_eq]
      exact h6
    · rw [upd_ne e, upd_same]
end
end K46

set_option Elab.async false
set_option linter.all false
set_option maxRecDepth 100000
set_option maxHeartbeats 4000000
namespace K46
open PySem PySem.Spec PyProof.Rows L2 Pw TL
section
variable {P : Program} {w : World} {K : PySem.W.Frag} {mg : Str → Option Value} {base : Heap}
/-- a def as its callers have it -/
structure UseD (P : Program) (w : World) (K : PySem.W.Frag) (mg : Str → Option Value) (base : Heap) (CX : CXT) (k : Nat) (x : Str) (ps : List Str) (sp : Sp) : Prop where
  ex : ∃ (f : Addr) (fd : FuncData), FnOk P w K mg base CX k f fd ps sp ∧ mg x = some (.ref f) ∧ PySem.W.keepIn K (.ref f) = true ∧ Binds K fd ps []
/-- a method as its callers have it -/
structure UseM (P : Program) (w : World) (K : PySem.W.Frag) (mg : Str → Option Value) (base : Heap) (CX : CXT) (k : Nat) (R : Addr) (x : Str) (ps : List Str) (sp : Sp) : Prop where
  ex : ∃ (f : Addr) (fd : FuncData), FnOk P w K mg base CX k f fd ps sp ∧ Meth K R x f ∧ Binds K fd ps []
/-- what a rule tells of itself -/
structure RuleM (P : Program) (w : World) (K : PySem.W.Frag) (mg : Str → Option Value) (base : Heap) (R : Addr) : Prop where
  c : RuleC K R
  words : UseM P w K mg base CX0 1 R "words" ["self"] (spMW R)
  low : UseM P w K mg base CX0 1 R "low" ["self"] (spMO R fun lo _ _ => .int lo)
  high : UseM P w K mg base CX0 1 R "high" ["self"] (spMO R fun _ hi _ => vI hi)
  span : UseM P w K mg base CX0 1 R "span" ["self"] (spMO R fun _ _ sp => vI sp)
theorem lk_strs {H : Hp} {n : Nat} {r g : Addr} {l : List Str} (h1 : H r = some (.lst (l.map V.str))) (h2 : H g = some (.lst (l.map V.str))) (hl : l.length ≤ 16000) : Lk K H (n + 1) (.ref r) (.ref g) :=
  .lst (SqL.of h1) (SqL.of h2) rfl (by rw [List.length_map]; exact hl) (fun i a b ha hb => by
    rw [ha] at hb
    obtain rfl : a = b := Option.some.inj hb
    rw [List.getElem?_map] at ha
    cases e : l[i]? with
    | none =>
      rw [e] at ha
      cases ha
    | some z =>
      rw [e] at ha
      obtain rfl : V.str z = a := Option.some.inj ha
      exact .str z)
theorem lk_vI {H : Hp} {n : Nat} (o : Option Int) : Lk K H n (vI o) (vI o) := by
  cases o with
  | none => exact .non
  | some i => exact .int i
abbrev dR : List V := [.non, .int 0, .non, .non]
abbrev psR : List Str := ["self", "words", "low", "high", "span"]
/-- how a rule is made -/
structure RMk (P : Program) (w : World) (K : PySem.W.Frag) (mg : Str → Option Value) (base : Heap) (R C : Addr) : Prop where
  ex : ∃ (f : Addr) (fd : FuncData), FnOk P w K mg base (L2N.CX P w) 5 f fd psR (spRI R C) ∧ Mk K R f ∧ FunD K "__init__" "Rule.__init__" (defArgs sRI) (defBody sRI) (defScope sRI) dR [] f fd
  mgR : mg "Rule" = some (.ref R)
theorem bindsAll {f : Addr} {fd : FuncData} (F : FunD K "__init__" "Rule.__init__" (defArgs sRI) (defBody sRI) (defScope sRI) dR [] f fd) : ∃ ds, Vals ([] : List V) ds ∧ Binds K fd psR ds :=
  F.binds1 5 4 (by simp) rfl (fun T kV doc pm an cdv ct us its l1 l2 => match us, its, l1, l2 with | [_, _, _, _, _], [_, _, _, _], _, _ => ⟨_, rfl, rfl⟩)
theorem made_same {H2 H' : Hp} {x dx R : Addr} (nx : H2 x = none) (nd : H2 dx = none) (fr : ∀ b o, b ≠ x → upd (upd H2 dx (.own x)) x (.ins R dx []) b = some o → H' b = some o) : Same H2 H' := fun b o e => by
  have h1 : b ≠ x := ne_of_none e nx
  have h2 : b ≠ dx := ne_of_none e nd
  refine fr b o h1 ?_
  rw [upd_ne h1, upd_ne h2]
  exact e
theorem made_free {H2 : Hp} {x dx R pw : Addr} (np : upd (upd H2 dx (.own x)) x (.ins R dx []) pw = none) : H2 pw = none := by
  by_cases h1 : pw = x
  · rw [h1, upd_same] at np
    cases np
  · rw [upd_ne h1] at np
    by_cases h2 : pw = dx
    · rw [h2, upd_same] at np
      cases np
    · rw [upd_ne h2] at np
      exact np
/-! _law_rule -/
abbrev sRL : Stmt := topS 44
theorem scRL : FnScope ["_law_r"] ["_law_r"] (defScope sRL) := ⟨rfl, rfl, rfl, by decide +kernel, rfl, by decide +kernel, by decide +kernel⟩
theorem Parts.same {H H1 : Hp} {T t : Addr} {xs : List Str} {lo : Int} {hi wd : Option Int} (h : Parts H T t xs lo hi wd) (s : Same H H1) : Parts H1 T t xs lo hi wd := ⟨s _ _ h.1, s _ _ h.2⟩
def spRL (R : Addr) : Sp := fun vs H Q _ => ∃ (T t : Addr) (xs : List Str) (lo : Int) (hi wd : Option Int), vs = [.ref T] ∧ Parts H T t xs lo hi wd ∧ xs.length ≤ 60 ∧ Short xs ∧ partBad xs lo hi wd = none ∧
  ∀ (r pw : Addr) (ys : List Str) H', Same H H' → H r = none → H pw = none → RuleAt H' R r pw ys lo hi wd → ys.Perm xs → sortedS ys = true → Q (.ref r) H'
theorem ok_rl {f R C : Addr} {fd : FuncData} (F : Fun K "_law_rule" "_law_rule" sRL f fd) (B : BN mg) (M : RMk P w K mg base R C) : FnOk P w K mg base CX0 7 f fd ["_law_r"] (spRL R) := by
  obtain ⟨fI, fdI, GI, MI, FI⟩ := M.ex
  have mR := M.mgR
  obtain ⟨dsA, vA, bA⟩ := bindsAll FI
  refine F.ok scRL (fun vs H Q E h => ?_) (fun cdv A outer s H vs Q E hr h => ?_)
  · obtain ⟨T, t, xs, lo, hi, wd, rfl, _⟩ := h
    rfl
  · obtain ⟨T, t, xs, lo, hi, wd, rfl, ⟨hT, ht⟩, h60, hs, hpb, k⟩ := h
    refine ⟨_, pss_one (ps_ret (pe_make MI GI hr rfl mR bA vA passLN (pa_cons (pe_callTy call_list_of (by rfl) B.lst (by decide +kernel) (pa_cons (pe_ix ix_tup (pv 0) pe_int (fun _ _ => rfl)) pa_nil)) (pa_cons (pe_ix ix_tup (pv 0) pe_int (fun _ _ => rfl)) (pa_cons (pe_ix ix_tup (pv 0) pe_int (fun _ _ => rfl)) (pa_cons (pe_ix ix_tup (pv 0) pe_int (fun _ _ => rfl)) pa_nil)))))), ?_⟩
    have hT1 : SqT K H T [.ref t, .int lo, vI hi, vI wd] := .inl (.inl hT)
    refine ⟨.ref T, rfl, T, _, 0, .ref t, rfl, rfl, hT1, rfl, t, _, rfl, .inr (.inl (.inl ht)), fun l nl => ?_⟩
    have s1 : Same H (upd H l (.lst (xs.map V.str))) := same_new nl
    have hT2 := Same.tup s1 hT1
    refine ⟨.ref T, rfl, T, _, 1, .int lo, rfl, rfl, hT2, rfl, .ref T, rfl, T, _, 2, vI hi, rfl, rfl, hT2, rfl, .ref T, rfl, T, _, 3, vI wd, rfl, rfl, hT2, rfl, fun x dx nx nd ne => ?_⟩
    have sI : Same (upd H l (.lst (xs.map V.str))) (upd (upd (upd H l (.lst (xs.map V.str))) dx (.own x)) x (.ins R dx [])) := (same_new nd).trans (same_new (by rw [upd_ne (fun z => ne z.symm)]; exact nx))
    refine ⟨x, dx, .ref l, xs, lo, hi, wd, rfl, upd_same, .inr ⟨l, rfl, sI _ _ upd_same⟩, by omega, fun z hz => Nat.le_trans (hs z hz).1 (by decide), fun _ ys pw H' hpm hsr npw fr hR => ⟨rfl, ?_⟩, fun s e => ?_⟩
    · exact k x pw ys H' (s1.trans (made_same nx nd fr)) (s1.free nx) (s1.free (made_free npw)) hR hpm hsr
    · rw [hpb] at e
      cases e
/-! _law_same_rule -/
abbrev sSR : Stmt := topS 48
theorem scSR : FnScope ["_law_made", "_law_r", "_law_told"] ["_law_made", "_law_r"] (defScope sSR) := ⟨rfl, rfl, rfl, by decide +kernel, rfl, by decide +kernel, by decide +kernel⟩
def spSR (R : Addr) : Sp := fun vs H Q _ => ∃ (r p T t : Addr) (ys xs : List Str) (lo : Int) (hi wd : Option Int), vs = [.ref r, .ref T] ∧ RuleAt H R r p ys lo hi wd ∧ ys.Perm xs ∧ sortedS ys = true ∧ Parts H T t xs lo hi wd ∧ xs.length ≤ 60 ∧ ∀ H', Same H H' → Q (.bl true) H'
theorem ok_sr {f R fL : Addr} {fd fdL : FuncData} (F : Fun K "_law_same_rule" "_law_same_rule" sSR f fd) (M : RuleM P w K mg base R) (ms : mg "sorted" = none)
    (GL : FnOk P w K mg base CX0 4 fL fdL ["_law_found", "_law_due"] (spLK K 3)) (lm : mg "_law_like" = some (.ref fL)) (lk : PySem.W.keepIn K (.ref fL) = true) (lb : Binds K fdL ["_law_found", "_law_due"] []) :
    FnOk P w K mg base CX0 5 f fd ["_law_made", "_law_r"] (spSR R) := by
  obtain ⟨f1, fd1, G1, m1, b1⟩ := M.words.ex
  obtain ⟨f2, fd2, G2, m2, b2⟩ := M.low.ex
  obtain ⟨f3, fd3, G3, m3, b3⟩ := M.high.ex
  obtain ⟨f4, fd4, G4, m4, b4⟩ := M.span.ex
  refine F.ok scSR (fun vs H Q E h => ?_) (fun cdv A outer s H vs Q E hr h => ?_)
  · obtain ⟨r, p, T, t, ys, xs, lo, hi, wd, rfl, _⟩ := h
    rfl
  · obtain ⟨r, p, T, t, ys, xs, lo, hi, wd, rfl, hR, hp, hs, ⟨hT, ht⟩, h60, q⟩ := h
    have hr1 : Room 1 _ := hr.mono (by decide)
    refine ⟨_, pss_cons (ps_set (i := 2) scSR.nd rfl (.inl rfl) (pe_tup (pa_cons (pe_meth0 (pv 0) M.c.c m1 G1 hr1 b1 .nil pass0) (pa_cons (pe_meth0 (pv 0) M.c.c m2 G2 hr1 b2 .nil pass0) (pa_cons (pe_meth0 (pv 0) M.c.c m3 G3 hr1 b3 .nil pass0) (pa_cons (pe_meth0 (pv 0) M.c.c m4 G4 hr1 b4 .nil pass0) pa_nil))))))
      (pss_one (ps_ret (pe_call GL hr rfl lm lk lb .nil pass0 (pa_cons (pv 2) (pa_cons (pe_tup (pa_cons (pe_callB cr_sortedST (by rfl) ms (by decide +kernel) (pa_cons (pe_ix ix_tup (pv 1) pe_int (fun _ _ => rfl)) pa_nil)) (pa_cons (pe_ix ix_tup (pv 1) pe_int (fun _ _ => rfl)) (pa_cons (pe_ix ix_tup (pv 1) pe_int (fun _ _ => rfl)) (pa_cons (pe_ix ix_tup (pv 1) pe_int (fun _ _ => rfl)) pa_nil))))) pa_nil))))), ?_⟩
    obtain ⟨dx, h1, h2⟩ := id hR
    refine ⟨.ref r, rfl, r, dx, _, rfl, h1, rfl, r, p, ys, lo, hi, wd, rfl, hR, fun l nl => ?_⟩
    have s1 : Same H (upd H l (.lst (ys.map V.str))) := same_new nl
    have hR1 := hR.same s1
    refine ⟨.ref r, rfl, r, dx, _, rfl, s1 _ _ h1, rfl, r, p, ys, lo, hi, wd, rfl, hR1, ?_⟩
    refine ⟨.ref r, rfl, r, dx, _, rfl, s1 _ _ h1, rfl, r, p, ys, lo, hi, wd, rfl, hR1, ?_⟩
    refine ⟨.ref r, rfl, r, dx, _, rfl, s1 _ _ h1, rfl, r, p, ys, lo, hi, wd, rfl, hR1, ?_⟩
    refine ⟨by show 4 ≤ sizeLine; decide, fun t4 n4 => ?_⟩
    have s4 := s1.trans (same_new (o := .tup [.ref l, .int lo, vI hi, vI wd]) n4)
    have sqT : SqT K (upd (upd H l (.lst (ys.map V.str))) t4 (.tup [.ref l, .int lo, vI hi, vI wd])) T [.ref t, .int lo, vI hi, vI wd] := .inl (.inl (s4 _ _ hT))
    refine ⟨_, rfl, .ref T, rfl, T, _, 0, .ref t, rfl, rfl, sqT, rfl, t, xs, rfl, .inr (.inl (.inl (s4 _ _ ht))), by omega, fun zs c hz hzs nc => ?_⟩
    have s5 := s4.trans (same_new (o := .lst (zs.map V.str)) nc)
    have sqT5 := Same.tup (same_new (o := .lst (zs.map V.str)) nc) sqT
    obtain rfl : zs = ys := sortedS_one (hz.trans hp.symm) hzs hs
    refine ⟨.ref T, rfl, T, _, 1, .int lo, rfl, rfl, sqT5, rfl, .ref T, rfl, T, _, 2, vI hi, rfl, rfl, sqT5, rfl, .ref T, rfl, T, _, 3, vI wd, rfl, rfl, sqT5, rfl, by show 4 ≤ sizeLine; decide, fun t6 n6 => ?_⟩
    have s6 := s5.trans (same_new (o := .tup [.ref c, .int lo, vI hi, vI wd]) n6)
    have e4 : t4 ≠ c := ne_of_none upd_same nc
    have el : l ≠ t4 := ne_of_none upd_same n4
    refine ⟨_, _, rfl, .tup (.inl (.inl (same_new n6 _ _ (same_new nc _ _ upd_same)))) (.inl (.inl upd_same)) rfl (by show 4 ≤ 16000; decide) (fun i a b ha hb => ?_), fun H' sm => q H' (s6.trans sm)⟩
    match i, ha, hb with
    | 0, ha, hb =>
      obtain rfl : V.ref l = a := Option.some.inj ha
      obtain rfl : V.ref c = b := Option.some.inj hb
      refine lk_strs (l := zs) (same_new n6 _ _ (same_new nc _ _ (same_new n4 _ _ upd_same))) (same_new n6 _ _ upd_same) ?_
      rw [hp.length_eq]
      omega
    | 1, ha, hb =>
      obtain rfl : V.int lo = a := Option.some.inj ha
      obtain rfl : V.int lo = b := Option.some.inj hb
      exact .int lo
    | 2, ha, hb =>
      obtain rfl : vI hi = a := Option.some.inj ha
      obtain rfl : vI hi = b := Option.some.inj hb
      exact lk_vI hi
    | 3, ha, hb =>
      obtain rfl : vI wd = a := Option.some.inj ha
      obtain rfl : vI wd = b := Option.some.inj hb
      exact lk_vI wd
    | _ + 4, ha, _ => simp at ha
end
end K46

set_option Elab.async false
set_option linter.all false
set_option maxRecDepth 100000
set_option maxHeartbeats 4000000
namespace K46
open PySem PySem.Spec PyProof.Rows L2 Pw TL
section
variable {P : Program} {w : World} {K : PySem.W.Frag} {mg : Str → Option Value} {base : Heap}
theorem vI_vO (o : Option Int) : vI o = vO o := by cases o <;> rfl
/-- small numbers -/
def Small (i : Int) : Prop := 0 ≤ i ∧ i ≤ 9
def SmallO (o : Option Int) : Prop := ∀ i, o = some i → Small i
theorem small_lg {i : Int} (h : Small i) : i.natAbs.log2 < 1920 := by
  obtain ⟨h0, h9⟩ := h
  by_cases e : i.natAbs = 0
  · rw [e]
    decide
  · exact (Nat.log2_lt e).mpr (Nat.lt_of_le_of_lt (by omega : i.natAbs ≤ 9) (Nat.lt_of_lt_of_le (by decide : 9 < 2 ^ 4) (Nat.pow_le_pow_right (by decide) (by decide))))
/-- a number or None as it is written -/
def numT : Option Int → Str
  | none => Str.ofString "-"
  | some i => (toString i : String)
theorem numT_len {o : Option Int} (h : SmallO o) : (numT o).length ≤ 1921 := by
  cases o with
  | none => decide
  | some i => exact int_text_len_1921 (small_lg (h i rfl))
/-! number_text -/
abbrev sNT : Stmt := topS 16
theorem scNT : FnScope ["number"] ["number"] (defScope sNT) := ⟨rfl, rfl, rfl, by decide +kernel, rfl, by decide +kernel, by decide +kernel⟩
def spNT : Sp := fun vs H Q _ => ∃ o : Option Int, vs = [vI o] ∧ SmallO o ∧ Q (.str (numT o)) H
theorem ok_nt {f : Addr} {fd : FuncData} {k : Nat} (F : Fun K "number_text" "number_text" sNT f fd) (ms : mg "str" = none) : FnOk P w K mg base CX0 (k + 1) f fd ["number"] spNT := by
  refine F.ok scNT (fun vs H Q E h => ?_) (fun cdv A outer s H vs Q E hr h => ?_)
  · obtain ⟨o, rfl, _⟩ := h
    rfl
  · obtain ⟨o, rfl, hs, q⟩ := h
    refine ⟨_, pss_one (ps_ret (pe_ifExp (pt_cmpR op_isN (pv 0) pe_non (nomark _)) pe_str (pe_callTy call_str_int (by rfl) ms (by decide +kernel) (pa_cons (pv 0) pa_nil)))), ?_⟩
    cases o with
    | none => exact ⟨.non, rfl, rfl, _, rfl, iteT q⟩
    | some i => exact ⟨.int i, rfl, rfl, _, rfl, iteF ⟨_, rfl, i, rfl, small_lg (hs i rfl), q⟩⟩
/-! words_text -/
abbrev sWT : Stmt := topS 17
theorem scWT : FnScope ["words"] ["words"] (defScope sWT) := ⟨rfl, rfl, rfl, by decide +kernel, rfl, by decide +kernel, by decide +kernel⟩
def wT (ys : List Str) : Str := match ys with
  | [] => Str.ofString "-"
  | y :: r => Txt.join (Str.ofString "+") (y :: r)
def spWT : Sp := fun vs H Q _ => ∃ (l : Addr) (ys : List Str), vs = [.ref l] ∧ H l = some (.lst (ys.map V.str)) ∧ ShortT ys ∧ Q (.str (wT ys)) H
theorem sum_len {ys : List Str} (h : ∀ y ∈ ys, (tl y).length ≤ 1000 ∧ PyData.strOk y = true) : (ys.map (·.length)).sum ≤ ys.length * 1000 := by
  induction ys with
  | nil => exact Nat.zero_le _
  | cons z r ih =>
    have a1 := ih fun y hy => h y (List.mem_cons_of_mem _ hy)
    have a2 := (h z List.mem_cons_self).1
    rw [List.map_cons, List.sum_cons, List.length_cons, len_tl]
    omega
theorem join_room {ys : List Str} (h : ShortT ys) {z : Str} (hz : z.length ≤ 1) : (ys.map (·.length)).sum + ys.length * z.length ≤ 16777216 := by
  have h1 := sum_len h.2
  have h2 := h.1
  have h3 : ys.length * z.length ≤ ys.length * 1 := Nat.mul_le_mul (Nat.le_refl _) hz
  omega
theorem ok_wt {f : Addr} {fd : FuncData} {k : Nat} (F : Fun K "words_text" "words_text" sWT f fd) : FnOk P w K mg base CX0 (k + 1) f fd ["words"] spWT := by
  refine F.ok scWT (fun vs H Q E h => ?_) (fun cdv A outer s H vs Q E hr h => ?_)
  · obtain ⟨l, ys, rfl, _⟩ := h
    rfl
  · obtain ⟨l, ys, rfl, hl, hs, q⟩ := h
    refine ⟨_, pss_one (ps_ret (pe_ifExp (pt_truth (pv 0) (fun _ => rfl)) (pe_join pe_str (pv 0)) pe_str)), ?_⟩
    refine ⟨.ref l, rfl, _, .inl ⟨_, SqL.of hl, rfl⟩, ?_⟩
    cases ys with
    | nil => exact iteF q
    | cons y r => exact iteT ⟨⟨_, rfl⟩, _, rfl, _, l, y :: r, rfl, rfl, .inl (SqL.of hl), join_room hs (by decide), q⟩
/-! Rule.__eq__ -/
abbrev sEQ : Stmt := inClass (topS 18) 12
theorem scEQ : FnScope ["self", "other"] ["self", "other"] (defScope sEQ) := ⟨rfl, rfl, rfl, by decide +kernel, rfl, by decide +kernel, by decide +kernel⟩
/-- what isinstance asks of the class -/
structure IsiC (K : PySem.W.Frag) (R : Addr) : Prop where
  ha : PySem.W.findIn K (.ref R) "__class__" = some (some (.builtin "object.__class__"))
  hn : PySem.W.specialIn K (.builtin "object.__class__") "__get__" = some (some (.builtin "getset_descriptor.__get__"))
  htk : PySem.W.takesIn K (.builtin "object.__class__") = some true
  hm : PySem.W.mroIn K R (.type "object") = some true
  me : PySem.W.kitOne K (.ref R) (.ref R) = some true
theorem ty_rule {H : Hp} {R r p : Addr} {ys : List Str} {lo : Int} {hi sp : Option Int} (c : RuleC K R) (i : IsiC K R) (h : RuleAt H R r p ys lo hi sp) : TyX K H (.ref r) (.ref R) := by
  obtain ⟨dx, h1, _⟩ := h
  exact .base (.ins h1 c.c i.ha i.hn i.htk i.hm)
def sameR (ys ys2 : List Str) (lo lo2 : Int) (hi hi2 sp sp2 : Option Int) : Bool := decide (ys = ys2) && (decide (lo = lo2) && (decide (hi = hi2) && decide (sp = sp2)))
def spEQ (K : PySem.W.Frag) (R : Addr) : Sp := fun vs H Q _ => ∃ (r p : Addr) (ys : List Str) (lo : Int) (hi sp : Option Int), RuleAt H R r p ys lo hi sp ∧ Short ys ∧
  ((∃ (r2 p2 : Addr) (ys2 : List Str) (lo2 : Int) (hi2 sp2 : Option Int), vs = [.ref r, .ref r2] ∧ RuleAt H R r2 p2 ys2 lo2 hi2 sp2 ∧ Short ys2 ∧ Q (.bl (sameR ys ys2 lo lo2 hi hi2 sp sp2)) H) ∨
   ∃ (y : V) (t : Value), vs = [.ref r, y] ∧ TyX K H y t ∧ PySem.W.kitOne K t (.ref R) = some false ∧ Q (.bl false) H)
theorem shaped_strs (ns : List Str) (hs : ∀ x ∈ ns, PyData.strOk x = true) : SeqAt.shaped (.list (ns.map PyData.str)) = true := by
  have h1 : PyData.depthAll (ns.map PyData.str) ≤ 1 := depth_strs ns
  have h3 : PyData.canLayAll0 (ns.map PyData.str) = true := by
    clear h1
    induction ns with
    | nil => simp [PyData.canLayAll0]
    | cons a r ih =>
      have h5 := hs a (List.mem_cons_self ..)
      have h6 := ih fun x hx => hs x (List.mem_cons_of_mem _ hx)
      simp [PyData.canLayAll0, PyData.canLay0] at *
      exact ⟨h5, h6⟩
  have h2 : PyData.depth (.list (ns.map PyData.str)) ≤ 64 := by simp only [PyData.depth]; omega
  show (PyData.canLay0 (.list (ns.map PyData.str)) && decide (PyData.depth (.list (ns.map PyData.str)) ≤ 64)) = true
  rw [Bool.and_eq_true]
  exact ⟨by simp only [PyData.canLay0]; exact h3, decide_eq_true h2⟩
theorem eqv_all : ∀ (a b : List Str), PyData.eqvAll (a.map PyData.str) (b.map PyData.str) = decide (a = b)
  | [], [] => rfl
  | [], _ :: _ => rfl
  | _ :: _, [] => rfl
  | x :: a, y :: b => by
    rw [List.map_cons, List.map_cons]
    show (PyData.eqv (.str x) (.str y) && PyData.eqvAll (a.map PyData.str) (b.map PyData.str)) = _
    rw [eqv_all a b]
    show ((x == y) && decide (a = b)) = _
    by_cases h : x = y
    · subst h
      by_cases h2 : a = b
      · subst h2
        simp
      · rw [decide_eq_false h2, decide_eq_false (fun z => h2 (List.cons.inj z).2), Bool.and_false]
    · rw [decide_eq_false (fun z => h (List.cons.inj z).1), beq_eq_false_iff_ne.mpr h, Bool.false_and]
theorem eqv_list (a b : List Str) : PyData.eqv (.list (a.map PyData.str)) (.list (b.map PyData.str)) = decide (a = b) := by
  show PyData.eqvAll (a.map PyData.str) (b.map PyData.str) = _
  exact eqv_all a b
theorem dec_vI (a b : Option Int) : decide (vI a = vI b) = decide (a = b) := by
  cases a with
  | none =>
    cases b with
    | none => rfl
    | some j => rfl
  | some i =>
    cases b with
    | none => rfl
    | some j =>
      by_cases h : i = j
      · subst h
        rw [decide_eq_true rfl, decide_eq_true rfl]
      · show decide (V.int i = V.int j) = _
        rw [decide_eq_false (fun z => h (V.int.inj z)), decide_eq_false (fun z => h (Option.some.inj z))]
theorem scal_vI (a b : Option Int) : scal (vI a) (vI b) = true := by cases a <;> cases b <;> rfl
theorem ok_eq {f R : Addr} {fd : FuncData} {k : Nat} (F : Fun K "__eq__" "Rule.__eq__" sEQ f fd) (T : RuleC K R) (C : IsiC K R) (mi : mg "isinstance" = none) (mR : mg "Rule" = some (.ref R)) : FnOk P w K mg base CX0 (k + 1) f fd ["self", "other"] (spEQ K R) := by
  refine F.ok scEQ (fun vs H Q E h => ?_) (fun cdv A outer s H vs Q E hr h => ?_)
  · obtain ⟨r, p, ys, lo, hi, sp, _, _, h⟩ := h
    rcases h with ⟨_, _, _, _, _, _, rfl, _⟩ | ⟨_, _, rfl, _⟩ <;> rfl
  · obtain ⟨r, p, ys, lo, hi, sp, hR, hs, h⟩ := h
    suffices hh : ∃ t, PSs (cxOf CX0 P w K mg base ["self", "other"] "Rule.__eq__" (defScope sEQ) f cdv A outer s H E).nox (defBody sEQ) t ∧ ∀ y : V, vs = [.ref r, y] → t { nx := fun _ H' => Q .non H', rt := Q } (L2.start ["self", "other"] [.ref r, y]) H by
      obtain ⟨t, h1, h2⟩ := hh
      refine ⟨t, h1, ?_⟩
      rcases h with ⟨r2, _, _, _, _, _, e, _⟩ | ⟨y, _, e, _⟩
      · rw [e]
        exact h2 _ e
      · rw [e]
        exact h2 _ e
    refine ⟨_, pss_one (ps_ret (pe_and (pe_callB call_isi (by rfl) mi (by decide +kernel) (pa_cons (pv 1) (pa_cons (pe_glob (v := .ref R) rfl mR rfl) pa_nil)))
      (pe_and (pe_cmpR (op_eqD hr.units) (pe_fld (pv 0) rfl) (pe_fld (pv 1) rfl) (nomark _)) (pe_and (pe_cmpR op_eq (pe_fld (pv 0) rfl) (pe_fld (pv 1) rfl) (nomark _))
      (pe_and (pe_cmpR op_eq (pe_fld (pv 0) rfl) (pe_fld (pv 1) rfl) (nomark _)) (pe_one (pe_cmpR op_eq (pe_fld (pv 0) rfl) (pe_fld (pv 1) rfl) (nomark _)))))))), fun y ey => ?_⟩
    obtain ⟨dx, h1, h2⟩ := id hR
    rcases h with ⟨r2, p2, ys2, lo2, hi2, sp2, e, hR2, hs2, q⟩ | ⟨y2, t, e, ty, hk, q⟩
    · obtain rfl : y = .ref r2 := by
        rw [e] at ey
        exact (List.cons.inj (List.cons.inj ey).2).1.symm
      obtain ⟨dx2, g1, g2⟩ := id hR2
      refine ⟨.ref r2, rfl, .ref r2, .ref R, .ref R, .ref R, true, rfl, .own R, ty_rule T C hR2, C.me, true, rfl, iteT ?_⟩
      refine ⟨_, rfl, r, R, dx, _, .ref p, rfl, h1, T.c, T.n1, rfl, _, rfl, r2, R, dx2, _, .ref p2, rfl, g1, T.c, T.n1, rfl, .list (ys.map PyData.str), .list (ys2.map PyData.str), .lst (SqL.of h2) (words_dp ys), .lst (SqL.of g2) (words_dp ys2), shaped_strs ys fun x hx => (hs x hx).2, shaped_strs ys2 fun x hx => (hs2 x hx).2, _, rfl, ?_⟩
      rw [eqv_list]
      unfold sameR at q
      by_cases c1 : ys = ys2
      · rw [decide_eq_true c1] at q ⊢
        refine iteT ⟨_, rfl, r, R, dx, _, .int lo, rfl, h1, T.c, T.n2, rfl, _, rfl, r2, R, dx2, _, .int lo2, rfl, g1, T.c, T.n2, rfl, rfl, _, rfl, ?_⟩
        by_cases c2 : lo = lo2
        · rw [decide_eq_true c2] at q
          rw [decide_eq_true (by rw [c2])]
          refine iteT ⟨_, rfl, r, R, dx, _, vI hi, rfl, h1, T.c, T.n3, rfl, _, rfl, r2, R, dx2, _, vI hi2, rfl, g1, T.c, T.n3, rfl, scal_vI _ _, _, rfl, ?_⟩
          rw [dec_vI]
          by_cases c3 : hi = hi2
          · rw [decide_eq_true c3] at q ⊢
            refine iteT ⟨_, rfl, r, R, dx, _, vI sp, rfl, h1, T.c, T.n4, rfl, _, rfl, r2, R, dx2, _, vI sp2, rfl, g1, T.c, T.n4, rfl, scal_vI _ _, ?_⟩
            rw [dec_vI]
            exact q
          · rw [decide_eq_false c3] at q ⊢
            exact iteF q
        · rw [decide_eq_false c2] at q
          rw [decide_eq_false (fun z => c2 (V.int.inj z))]
          exact iteF q
      · rw [decide_eq_false c1] at q ⊢
        exact iteF q
    · obtain rfl : y = y2 := by
        rw [e] at ey
        exact (List.cons.inj (List.cons.inj ey).2).1.symm
      exact ⟨y, rfl, y, .ref R, t, .ref R, false, rfl, .own R, ty, hk, false, rfl, iteF q⟩
/-! Rule.__str__ -/
abbrev sST : Stmt := inClass (topS 18) 13
theorem scST : FnScope ["self"] ["self"] (defScope sST) := ⟨rfl, rfl, rfl, by decide +kernel, rfl, by decide +kernel, by decide +kernel⟩
def ruleT (ys : List Str) (lo : Int) (hi sp : Option Int) : Str := Txt.join (Str.ofString " ") [wT ys, numT (some lo), numT hi, numT sp]
def spST (R : Addr) : Sp := fun vs H Q _ => ∃ (r p : Addr) (ys : List Str) (lo : Int) (hi sp : Option Int), vs = [.ref r] ∧ RuleAt H R r p ys lo hi sp ∧ ShortT ys ∧ Small lo ∧ SmallO hi ∧ SmallO sp ∧ ∀ H', Same H H' → Q (.str (ruleT ys lo hi sp)) H'
theorem joinLn (s : List Nat) : ∀ ps : List (List Nat), (TL.joinL s ps).length ≤ (ps.map List.length).sum + ps.length * s.length
  | [] => Nat.zero_le _
  | [a] => by
    show a.length ≤ a.length + 0 + 1 * s.length
    omega
  | a :: b :: r => by
    have ih := joinLn s (b :: r)
    have e : TL.joinL s (a :: b :: r) = a ++ s ++ TL.joinL s (b :: r) := by
      first
        | rfl
        | simp [TL.joinL]
    rw [e, List.length_append, List.length_append, List.map_cons, List.sum_cons, List.length_cons, Nat.succ_mul]
    omega
theorem join_len (s : Str) (ys : List Str) : (Txt.join s ys).length ≤ (ys.map (·.length)).sum + ys.length * s.length := by
  rw [join_eq, len_tl, TL.tl_join]
  have h := joinLn (tl s) (ys.map tl)
  rw [List.map_map, List.length_map] at h
  have e : ys.map (List.length ∘ tl) = ys.map (·.length) := List.map_congr_left fun y _ => (len_tl y).symm
  rw [e, ← len_tl] at h
  exact h
theorem wT_len {ys : List Str} (h : ShortT ys) : (wT ys).length ≤ 100000 := by
  cases ys with
  | nil => decide
  | cons y r =>
    have h1 := sum_len h.2
    have h2 := h.1
    have h3 : (Txt.join (Str.ofString "+") (y :: r)).length ≤ ((y :: r).map (·.length)).sum + (y :: r).length * 1 := join_len (Str.ofString "+") (y :: r)
    show (Txt.join (Str.ofString "+") (y :: r)).length ≤ _
    omega
theorem ok_st {f R fW fN : Addr} {fd fdW fdN : FuncData} (F : Fun K "__str__" "Rule.__str__" sST f fd) (T : RuleC K R)
    (GW : FnOk P w K mg base CX0 1 fW fdW ["words"] spWT) (wm : mg "words_text" = some (.ref fW)) (wk : PySem.W.keepIn K (.ref fW) = true) (wb : Binds K fdW ["words"] [])
    (GN : FnOk P w K mg base CX0 1 fN fdN ["number"] spNT) (nm : mg "number_text" = some (.ref fN)) (nk : PySem.W.keepIn K (.ref fN) = true) (nb : Binds K fdN ["number"] []) : FnOk P w K mg base CX0 2 f fd ["self"] (spST R) := by
  refine F.ok scST (fun vs H Q E h => ?_) (fun cdv A outer s H vs Q E hr h => ?_)
  · obtain ⟨r, p, ys, lo, hi, sp, rfl, _⟩ := h
    rfl
  · obtain ⟨r, p, ys, lo, hi, sp, rfl, hR, hs, hlo, hhi, hsp, q⟩ := h
    refine ⟨_, pss_one (ps_ret (pe_join pe_str (pe_lst (pa_cons (pe_call GW hr rfl wm wk wb .nil pass0 (pa_cons (pe_fld (pv 0) rfl) pa_nil)) (pa_cons (pe_call GN hr rfl nm nk nb .nil pass0 (pa_cons (pe_fld (pv 0) rfl) pa_nil)) (pa_cons (pe_call GN hr rfl nm nk nb .nil pass0 (pa_cons (pe_fld (pv 0) rfl) pa_nil)) (pa_cons (pe_call GN hr rfl nm nk nb .nil pass0 (pa_cons (pe_fld (pv 0) rfl) pa_nil)) pa_nil))))))), ?_⟩
    obtain ⟨dx, h1, h2⟩ := id hR
    have sl : SmallO (some lo) := fun i e => by rw [← Option.some.inj e]; exact hlo
    refine ⟨⟨_, rfl⟩, _, rfl, r, R, dx, _, .ref p, rfl, h1, T.c, T.n1, rfl, p, ys, rfl, h2, hs, ?_⟩
    refine ⟨_, rfl, r, R, dx, _, .int lo, rfl, h1, T.c, T.n2, rfl, some lo, rfl, sl, ?_⟩
    refine ⟨_, rfl, r, R, dx, _, vI hi, rfl, h1, T.c, T.n3, rfl, hi, rfl, hhi, ?_⟩
    refine ⟨_, rfl, r, R, dx, _, vI sp, rfl, h1, T.c, T.n4, rfl, sp, rfl, hsp, by show 4 ≤ sizeLine; decide, fun l nl => ?_⟩
    refine ⟨_, l, [wT ys, numT (some lo), numT hi, numT sp], rfl, rfl, .inl (SqL.of upd_same), ?_, q _ (same_new nl)⟩
    have b1 := wT_len hs
    have b2 := numT_len sl
    have b3 := numT_len hhi
    have b4 := numT_len hsp
    show (wT ys).length + ((numT (some lo)).length + ((numT hi).length + ((numT sp).length + 0))) + 4 * 1 ≤ 16777216
    omega
end
section
variable {P : Program} {w : World} {K : PySem.W.Frag} {mg : Str → Option Value} {base : Heap}
theorem parts_inv {xs : List Str} {lo : Int} {hi wd : Option Int} (h : partBad xs lo hi wd = none) : 0 ≤ lo ∧ lo ≤ 3 ∧ (∀ g, hi = some g → max 1 lo ≤ g ∧ g ≤ 7) ∧ (∀ g, wd = some g → 1 ≤ g ∧ g ≤ 4) := by
  unfold partBad at h
  split at h
  · split at h
    · split at h
      · split at h
        · rename_i h1 h2 h3 h4
          have a := of_decide_eq_true h2
          refine ⟨a.1, a.2, fun g e => ?_, fun g e => ?_⟩
          · subst e
            exact of_decide_eq_true h3
          · subst e
            exact of_decide_eq_true h4
        · cases h
      · cases h
    · cases h
  · cases h
/-! _law_rule_text -/
abbrev sRT : Stmt := topS 49
abbrev nRT : List Str := ["_law_r", "_law_parts_here", "_law_part"]
theorem scRT : FnScope nRT ["_law_r"] (defScope sRT) := ⟨rfl, rfl, rfl, by decide +kernel, rfl, by decide +kernel, by decide +kernel⟩
def spRT : Sp := fun vs H Q _ => ∃ (T t : Addr) (xs : List Str) (lo : Int) (hi wd : Option Int), vs = [.ref T] ∧ Parts H T t xs lo hi wd ∧ ShortT xs ∧ sortedS xs = true ∧ Small lo ∧ SmallO hi ∧ SmallO wd ∧ ∀ H', Same H H' → Q (.str (ruleT xs lo hi wd)) H'
theorem ok_rt {f : Addr} {fd : FuncData} {k : Nat} (F : Fun K "_law_rule_text" "_law_rule_text" sRT f fd) (B : BN mg) (ms : mg "sorted" = none) : FnOk P w K mg base CX0 (k + 1) f fd ["_law_r"] spRT := by
  refine F.ok scRT (fun vs H Q E h => ?_) (fun cdv A outer s H vs Q E hr h => ?_)
  · obtain ⟨T, t, xs, lo, hi, wd, rfl, _⟩ := h
    rfl
  · obtain ⟨T, t, xs, lo, hi, wd, rfl, hP, hs, hsr, hlo, hhi, hwd, q⟩ := h
    refine ⟨_, pss_cons (ps_setLc (i := 1) (own := [("_law_part", 2)]) (g := gName 2) rfl scRT.nd rfl rfl (sw_true rfl rfl rfl (by decide +kernel)) (pi_tup (pe_slice sl_tup (pv 0) (po_some pe_int) po_none))
        (blkOk_by (N := nRT) (sc := defScope sRT) (by decide +kernel)) (fun _ _ _ _ _ => pg_name (i := 2) scRT.nd rfl (Or.inl rfl)) (fun _ _ _ _ _ => pts_nil)
        (fun _ _ _ _ _ => pe_ifExp (pt_cmpR op_isN (pv 2) pe_non (nomark _)) pe_str (pe_callTy call_str_int (by rfl) B.str (by decide +kernel) (pa_cons (pv 2) pa_nil))))
      (pss_one (ps_ret (pe_join pe_str (pe_op op_cat (pe_lst (pa_cons (pe_ifExp (pt_cmpR op_gt (pe_callB call_len_seq (by rfl) B.len PySem.boot_len (pa_cons (pe_ix ix_tup (pv 0) pe_int (fun _ _ => rfl)) pa_nil)) pe_int (nomark _))
        (pe_join pe_str (pe_callB cr_sortedST (by rfl) ms (by decide +kernel) (pa_cons (pe_ix ix_tup (pv 0) pe_int (fun _ _ => rfl)) pa_nil))) pe_str) pa_nil)) (pv 1))))), ?_⟩
    have sq : SqT K H T [.ref t, .int lo, vI hi, vI wd] := .inl (.inl hP.1)
    have sl : SmallO (some lo) := fun i e => by rw [← Option.some.inj e]; exact hlo
    have hos : ∀ o ∈ [some lo, hi, wd], SmallO o := fun o ho => by
      rcases List.mem_cons.mp ho with e | ho
      · exact e ▸ sl
      rcases List.mem_cons.mp ho with e | ho
      · exact e ▸ hhi
      exact (List.mem_singleton.mp ho) ▸ hwd
    refine ⟨.ref T, rfl, 1, rfl, T, _, rfl, sq, (fun z => by have := z.1; cases this), fun T1 n1 => ?_⟩
    have s1 : Same H (upd H T1 (.tup ([some lo, hi, wd].map vI))) := same_new n1
    refine ⟨T1, rfl, ⟨_, .inl (.inl upd_same)⟩, fun D nD => ?_⟩
    refine lc_tup (K := K) (a := T1) (xs := [some lo, hi, wd].map vI) (fun i H2 => Same (upd H T1 (.tup ([some lo, hi, wd].map vI))) H2 ∧ H2 D = some (.lst ((([some lo, hi, wd].map numT).take i).map V.str)))
      ⟨same_new nD, upd_same⟩ (fun i H2 _ h => .inl (.inl (h.1 _ _ upd_same))) (fun i v H2 hv h => ?_) (fun H2 h => ?_)
    · obtain ⟨s2, h3⟩ := h
      rw [List.getElem?_map] at hv
      cases hz : [some lo, hi, wd][i]? with
      | none =>
        rw [hz] at hv
        cases hv
      | some o =>
        rw [hz] at hv
        obtain rfl : vI o = v := Option.some.inj hv
        have hg : ([some lo, hi, wd].map numT)[i]? = some (numT o) := by
          rw [List.getElem?_map, hz]
          rfl
        have ho := hos o (List.mem_of_getElem? hz)
        have put : ∃ acc, H2 D = some (.lst acc) ∧ acc.length < sizeLine ∧ (Same (upd H T1 (.tup ([some lo, hi, wd].map vI))) (upd H2 D (.lst (acc ++ [.str (numT o)]))) ∧ upd H2 D (.lst (acc ++ [.str (numT o)])) D = some (.lst ((([some lo, hi, wd].map numT).take (i + 1)).map V.str))) := by
          refine ⟨_, h3, ?_, same_put s2 nD, ?_⟩
          · rw [List.length_map, List.length_take]
            exact Nat.lt_of_le_of_lt (Nat.min_le_right _ _) (by show 3 < sizeLine; decide)
          · rw [upd_same, List.take_add_one, hg, List.map_append]
            rfl
        cases o with
        | none => exact ⟨rfl, .non, rfl, rfl, _, rfl, iteT put⟩
        | some j => exact ⟨rfl, .int j, rfl, rfl, _, rfl, iteF ⟨_, rfl, j, rfl, small_lg (ho j rfl), put⟩⟩
    obtain ⟨s2, h3⟩ := h
    have s12 := s1.trans s2
    have sq2 := Same.tup s12 sq
    have sqt2 : SqT K H2 t (xs.map V.str) := .inl (.inl (s12 _ _ hP.2))
    have fin : ∀ (z : Str) (H5 : Hp), Same H2 H5 → z = wT xs → 1 ≤ sizeLine ∧ ∀ l1, H5 l1 = none → ∃ v, [some (V.ref T), some (.ref D), none][1]? = some (some v) ∧ ∃ l b zs zr, V.ref l1 = .ref l ∧ v = .ref b ∧ upd H5 l1 (.lst [.str z]) l = some (.lst zs) ∧ upd H5 l1 (.lst [.str z]) b = some (.lst zr) ∧ zs.length + zr.length ≤ sizeLine ∧ ∀ p, upd H5 l1 (.lst [.str z]) p = none →
        ∃ a p1, ∃ ys : List Str, V.str (Str.ofString " ") = .str a ∧ [V.ref p] = [.ref p1] ∧ (SqL K (upd (upd H5 l1 (.lst [.str z])) p (.lst (zs ++ zr))) p1 (ys.map V.str) ∨ SqT K (upd (upd H5 l1 (.lst [.str z])) p (.lst (zs ++ zr))) p1 (ys.map V.str)) ∧ (ys.map (·.length)).sum + ys.length * a.length ≤ 16777216 ∧ Q (.str (Txt.join a ys)) (upd (upd H5 l1 (.lst [.str z])) p (.lst (zs ++ zr))) := fun z H5 s5 ez => by
      subst ez
      refine ⟨by decide, fun l1 n1' => ⟨_, rfl, l1, D, _, _, rfl, rfl, upd_same, same_new n1' _ _ (s5 _ _ h3), by show 1 + 3 ≤ sizeLine; decide, fun p np => ⟨_, p, wT xs :: [numT (some lo), numT hi, numT wd], rfl, rfl, .inl (SqL.of upd_same), ?_, ?_⟩⟩⟩
      · have b1 := wT_len hs
        have b2 := numT_len sl
        have b3 := numT_len hhi
        have b4 := numT_len hwd
        show (wT xs).length + ((numT (some lo)).length + ((numT hi).length + ((numT wd).length + 0))) + 4 * 1 ≤ 16777216
        omega
      · exact q _ ((s12.trans s5).trans ((same_new n1').trans (same_new np)))
    refine ⟨⟨_, rfl⟩, .ref T, rfl, T, _, 0, .ref t, rfl, rfl, sq2, rfl, t, _, rfl, .inr sqt2, _, _, rfl, rfl, _, rfl, ?_⟩
    cases xs with
    | nil => exact iteF (fin _ H2 (Same.refl H2) rfl)
    | cons x r =>
      rw [decide_eq_true (by rw [List.length_map, List.length_cons]; omega)]
      refine iteT ⟨⟨_, rfl⟩, .ref T, rfl, T, _, 0, .ref t, rfl, rfl, sq2, rfl, t, x :: r, rfl, .inr sqt2, by have := hs.1; omega, fun zs c hz hzs nc => ?_⟩
      obtain rfl : zs = x :: r := sortedS_one hz hzs hsr
      exact ⟨_, c, x :: r, rfl, rfl, .inl (SqL.of upd_same), join_room hs (by decide), fin _ _ (same_new nc) rfl⟩
end
end K46

set_option Elab.async false
set_option linter.all false
set_option maxRecDepth 100000
set_option maxHeartbeats 4000000
namespace K46
open PySem PySem.Spec PyProof.Rows L2 Pw TL
section
variable {P : Program} {w : World} {K : PySem.W.Frag} {mg : Str → Option Value} {base : Heap}
/-! _law_bad_at -/
abbrev sBA : Stmt := topS 40
theorem scBA : FnScope ["_law_text", "_law_bad", "_law_at"] ["_law_text"] (defScope sBA) := ⟨rfl, rfl, rfl, by decide +kernel, rfl, by decide +kernel, by decide +kernel⟩
def spBA : Sp := fun vs H Q _ => ∃ x : Str, vs = [.str x] ∧ (tl x).length ≤ 12000 ∧ ∀ H', Same H H' → Q (vOpt (strange (tl x))) H'
/-- the places of strangers below n -/
def bads (l : List Nat) (n : Nat) : List Int := ((List.range n).filter fun i => (l[i]?.map bad).getD false).map fun (i : Nat) => (i : Int)
theorem bads_snoc {l : List Nat} {n c : Nat} (h : l[n]? = some c) : bads l (n + 1) = bads l n ++ (if bad c = true then [(n : Int)] else []) := by
  unfold bads
  rw [List.range_succ, List.filter_append, List.map_append]
  congr 1
  cases hb : bad c <;> simp [h, hb]
theorem bads_head (l : List Nat) : (bads l l.length).head? = (strange l).map fun (i : Nat) => (i : Int) := by
  have gen : ∀ n, n ≤ l.length → (bads l n).head? = ((strange (l.take n)).map fun (i : Nat) => (i : Int)) := by
    intro n
    induction n with
    | zero => intro _; rfl
    | succ n ih =>
      intro hn
      have hg : l[n]? = some l[n] := List.getElem?_eq_getElem (by omega)
      have ih := ih (by omega)
      rw [bads_snoc hg, take_snoc hg, List.head?_append, ih]
      unfold strange
      rw [List.findIdx?_append]
      cases hs : (l.take n).findIdx? bad with
      | some i => rfl
      | none =>
        cases hb : bad l[n] with
        | false => simp [hb]
        | true =>
          simp [hb, List.length_take]
          omega
  have := gen l.length (Nat.le_refl _)
  rw [List.take_length] at this
  exact this
theorem bads_len (l : List Nat) (n : Nat) : (bads l n).length ≤ n := by
  unfold bads
  rw [List.length_map]
  exact Nat.le_trans (List.length_filter_le _ _) (by rw [List.length_range]; exact Nat.le_refl _)
theorem not01 (c : Nat) : (!decide (c ∈ (Str.ofString "01").cps.toList)) = bad c := by
  have e : (Str.ofString "01").cps.toList = [48, 49] := rfl
  rw [e]
  unfold bad
  by_cases h0 : c = 48
  · subst h0; rfl
  · by_cases h1 : c = 49
    · subst h1; rfl
    · simp [h0, h1]
theorem ok_ba {f : Addr} {fd : FuncData} {k : Nat} (F : Fun K "_law_bad_at" "_law_bad_at" sBA f fd) (mr : mg "range" = none) (ml : mg "len" = none) : FnOk P w K mg base CX0 (k + 1) f fd ["_law_text"] spBA := by
  refine F.ok scBA (fun vs H Q E h => ?_) (fun cdv A outer s H vs Q E hr h => ?_)
  · obtain ⟨x, rfl, _⟩ := h
    rfl
  · obtain ⟨x, rfl, hl, q⟩ := h
    have hz : x.length ≤ sizeLine := by
      rw [len_tl]
      exact Nat.le_trans hl (by decide)
    refine ⟨_, pss_cons (ps_setLc (i := 1) (own := [("_law_at", 2)]) (g := gName 2) rfl scBA.nd rfl rfl (sw_true rfl rfl rfl (by decide +kernel)) (pi_range1 rfl mr (pa_cons (pe_callB call_len_str (by rfl) ml PySem.boot_len (pa_cons (pv 0) pa_nil)) pa_nil))
        (blkOk_by (N := ["_law_text", "_law_bad", "_law_at"]) (sc := defScope sBA) (by decide +kernel)) (fun _ _ _ _ _ => pg_name (i := 2) scBA.nd rfl (Or.inl rfl))
        (fun _ _ _ _ _ => pts_one (pt_cmpR op_notIn_sign (pe_ix ix_str (pv 0) (pv 2) (fun _ _ => rfl)) pe_str (by rfl))) (fun _ _ _ _ _ => pv 2))
      (pss_one (ps_ret (pe_ifExp (pt_cmpR (op_neD hr.units) (pv 1) (pe_lst pa_nil) (nomark _)) (pe_ix ix_list (pv 1) pe_int (fun _ _ => rfl)) pe_non))), ?_⟩
    refine ⟨_, rfl, x, rfl, hz, (x.length : Int), rfl, by omega, ?_, fun D nD => ?_⟩
    · rw [len_tl]
      omega
    refine lc_range (lo := 0) (n := x.length) (fun i H2 => Same H H2 ∧ H2 D = some (.lst ((bads (tl x) i).map V.int))) ⟨same_new nD, upd_same⟩ (fun i H2 hi h => ?_) (fun H2 h => ?_)
    · obtain ⟨s2, h2⟩ := h
      have hi2 : i < (tl x).length := by rw [← len_tl]; exact hi
      have hg : (tl x)[i]? = some (tl x)[i] := List.getElem?_eq_getElem hi2
      refine ⟨rfl, _, rfl, _, rfl, x, (0 + (i : Int)), (tl x)[i], rfl, rfl, hz, ?_, (tl x)[i], _, rfl, rfl, _, rfl, ?_⟩
      · rw [Int.zero_add]
        exact atI_nat hg
      rw [not01]
      have sn := bads_snoc hg
      cases hb : bad (tl x)[i] with
      | true =>
        rw [hb, if_pos rfl] at sn
        refine iteT ⟨_, rfl, _, h2, ?_, same_put s2 nD, ?_⟩
        · rw [List.length_map]
          exact Nat.lt_of_le_of_lt (bads_len _ _) (Nat.lt_of_le_of_lt (show _ ≤ 12000 by omega) (by decide))
        · rw [upd_same, sn, List.map_append, Int.zero_add]
          rfl
      | false =>
        rw [hb, if_neg (by decide), List.append_nil] at sn
        refine iteF ⟨s2, ?_⟩
        rw [sn]
        exact h2
    · obtain ⟨s2, h2⟩ := h
      rw [len_tl] at h2
      have hd := bads_head (tl x)
      refine ⟨_, rfl, by show 0 ≤ sizeLine; decide, fun r nr => ?_⟩
      have s3 : Same H (upd H2 r (.lst [])) := s2.trans (same_new nr)
      have h3 : upd H2 r (.lst []) D = some (.lst ((bads (tl x) (tl x).length).map V.int)) := by
        rw [upd_ne (ne_of_none h2 nr)]
        exact h2
      refine ⟨.list ((bads (tl x) (tl x).length).map PyData.int), .list [], .lst (SqL.of h3) ?_, .lst (SqL.of upd_same) .nil, ?_, rfl, _, rfl, ?_⟩
      · generalize bads (tl x) (tl x).length = l
        induction l with
        | nil => exact .nil
        | cons a r ih => exact .cons (.int a) ih
      · exact PySem.W.shaped_ints _
      · cases hs : strange (tl x) with
        | none =>
          rw [hs] at hd
          have e0 : bads (tl x) (tl x).length = [] := List.head?_eq_none_iff.mp hd
          rw [e0]
          refine iteF ?_
          have := q _ s3
          rw [hs] at this
          exact this
        | some i =>
          rw [hs] at hd
          obtain ⟨r2, e0⟩ : ∃ r2, bads (tl x) (tl x).length = (i : Int) :: r2 := by
            cases hb : bads (tl x) (tl x).length with
            | nil =>
              rw [hb] at hd
              cases hd
            | cons a r2 =>
              rw [hb] at hd
              have : a = (i : Int) := Option.some.inj hd
              rw [this]
              exact ⟨r2, rfl⟩
          rw [e0] at h3 ⊢
          refine iteT ⟨_, rfl, D, _, 0, .int (i : Nat), rfl, rfl, SqL.of h3, atI_nat (j := 0) rfl, ?_⟩
          have := q _ s3
          rw [hs] at this
          exact this
end
section
variable {P : Program} {w : World} {K : PySem.W.Frag} {mg : Str → Option Value} {base : Heap}
/-! _law_number_in -/
abbrev sNI : Stmt := topS 51
abbrev nNI : List Str := ["_law_word_here","_law_good","_law_sign"]
theorem scNI : FnScope nNI ["_law_word_here"] (defScope sNI) := ⟨rfl, rfl, rfl, by decide +kernel, rfl, by decide +kernel, by decide +kernel⟩
def numV (x : Str) : V := if numB x = true then .int (PySem.NumText.digitsVal (tl x) : Nat) else .non
def spNI : Sp := fun vs H Q _ => ∃ x : Str, vs = [.str x] ∧ (tl x).length ≤ 12000 ∧ ∀ H', Same H H' → Q (numV x) H'
theorem all_fig (l : List Nat) : (l.map isFig).all id = l.all isFig := by
  rw [List.all_map]
  rfl
theorem ok_ni {f : Addr} {fd : FuncData} {k : Nat} (F : Fun K "_law_number_in" "_law_number_in" sNI f fd) (B : BN mg) : FnOk P w K mg base CX0 (k + 1) f fd ["_law_word_here"] spNI := by
  refine F.ok scNI (fun vs H Q E h => ?_) (fun cdv A outer s H vs Q E hr h => ?_)
  · obtain ⟨x, rfl, _⟩ := h
    rfl
  · obtain ⟨x, rfl, hl, q⟩ := h
    have hz : x.length ≤ sizeLine := by
      rw [len_tl]
      exact Nat.le_trans hl (by decide)
    refine ⟨_, (_root_.C8.pss_cut (ps_set (i := 1) scNI.nd rfl (.inl rfl) (pe_and (pe_chain op_lt op_lt pe_int (pe_callB call_len_str (by rfl) B.len PySem.boot_len (pa_cons (pv 0) pa_nil)) pe_int) (pe_one (pe_callB (cr_all rfl) (by rfl) B.all (by decide +kernel) (pa_cons (pe_lc (own := [("_law_sign", 2)]) (g := gName 2) (tt := tYes) rfl scNI.nd (pi_str (pv 0)) (blkOk_by (N := nNI) (sc := defScope sNI) (by decide +kernel)) (fun _ _ _ _ _ => pg_name (i := 2) scNI.nd rfl (Or.inl rfl)) (fun _ _ _ _ _ => pts_nil) (fun _ _ _ _ _ => (pe_cmpR op_in_sign (pv 2) pe_str rfl))) pa_nil)))))
      (pss_cons (ps_if (PW.pt (pw_or (pt_not (pt_val (pv 1))) (pw_or1 (PW.pt (pw_and (pt_cmpR op_gt (pe_callB call_len_str (by rfl) B.len PySem.boot_len (pa_cons (pv 0) pa_nil)) pe_int (nomark _)) (pw_and1 (pt_cmpR op_eq (pe_ix ix_str (pv 0) pe_int (fun _ _ => rfl)) pe_str (nomark _))))))))
        (pss_one (ps_ret pe_non))
        pss_nil)
      (pss_one (ps_ret (pe_callTy call_int_str (by rfl) B.int (by decide +kernel) (pa_cons (pv 0) pa_nil)))))), ?_⟩
    refine ⟨fun σ G => Same H G ∧ σ = [some (.str x), some (.bl (decide (1 ≤ (tl x).length ∧ (tl x).length ≤ 6) && (tl x).all isFig)), none], ?_, ?_⟩
    · refine ⟨_, rfl, x, rfl, hz, _, _, rfl, rfl, _, rfl, ?_⟩
      by_cases h1 : (0 : Int) < (x.length : Nat)
      · rw [decide_eq_true h1]
        refine iteT ⟨_, _, rfl, rfl, _, rfl, ?_⟩
        by_cases h6 : ((x.length : Nat) : Int) < 7
        · rw [decide_eq_true h6]
          have hlen : 1 ≤ (tl x).length ∧ (tl x).length ≤ 6 := by
            rw [← len_tl]
            omega
          refine iteT ⟨_, rfl, x, rfl, fun D nD => ?_⟩
          refine lc_str (z := x) (fun i H2 => Same H H2 ∧ H2 D = some (.lst ((((tl x).take i).map isFig).map V.bl))) ⟨same_new nD, upd_same⟩ (fun i c H2 hc h => ?_) (fun H2 h => ?_)
          · obtain ⟨s2, h2⟩ := h
            have hc' : (tl x)[i]? = some c := by rw [← hc]; exact Array.getElem?_toList
            refine ⟨rfl, _, rfl, c, figs, rfl, rfl, _, h2, ?_, same_put s2 nD, ?_⟩
            · rw [List.length_map, List.length_map, List.length_take]
              exact Nat.lt_of_le_of_lt (Nat.min_le_right _ _) (Nat.lt_of_le_of_lt hlen.2 (by decide))
            · rw [upd_same, take_snoc hc', List.map_append, List.map_append]
              have e : decide (c ∈ figs.cps.toList) = isFig c := by
                cases hf : isFig c with
                | true => exact decide_eq_true ((fig_in c).mpr hf)
                | false => exact decide_eq_false (fun z => by rw [(fig_in c).mp z] at hf; cases hf)
              rw [e]
              rfl
          obtain ⟨s2, h2⟩ := h
          have hfull : (tl x).take x.cps.size = tl x := List.take_of_length_le (by simp)
          rw [hfull] at h2
          refine ⟨D, _, rfl, SqL.of h2, s2, ?_⟩
          rw [all_fig, decide_eq_true hlen, Bool.true_and]
          rfl
        · rw [decide_eq_false h6]
          refine iteF ⟨Same.refl H, ?_⟩
          rw [decide_eq_false (p := 1 ≤ (tl x).length ∧ (tl x).length ≤ 6) (by rw [← len_tl]; omega), Bool.false_and]
          rfl
      · rw [decide_eq_false h1]
        refine iteF ⟨_, rfl, iteF ⟨Same.refl H, ?_⟩⟩
        rw [decide_eq_false (p := 1 ≤ (tl x).length ∧ (tl x).length ≤ 6) (by rw [← len_tl]; omega), Bool.false_and]
        rfl
    rintro _ G ⟨sG, rfl⟩
    have q := fun H' (s : Same G H') => q H' (sG.trans s)
    clear sG
    refine ⟨_, rfl, _, rfl, ?_⟩
    cases hg : (decide (1 ≤ (tl x).length ∧ (tl x).length ≤ 6) && (tl x).all isFig) with
    | false =>
      have e : numV x = .non := by
        unfold numV numB
        rw [hg]
        rfl
      rw [e] at q
      exact iteT (iteT (q G (Same.refl G)))
    | true =>
      obtain ⟨g1, g2⟩ := Bool.and_eq_true _ _ |>.mp hg
      have hlen := of_decide_eq_true g1
      obtain ⟨c, r, ex⟩ : ∃ c r, tl x = c :: r := by
        cases ex : tl x with
        | nil =>
          rw [ex] at hlen
          exact absurd hlen.1 (by decide)
        | cons c r => exact ⟨c, r, rfl⟩
      have hx0 : atI (tl x) 0 = some c := atI_nat (j := 0) (by rw [ex]; rfl)
      have hd : PySem.NumText.AllDigits x.cps.toList := fun d hd => of_decide_eq_true (List.all_eq_true.mp g2 d hd)
      have hin : PySem.intText? x = some ((PySem.NumText.digitsVal (tl x) : Nat) : Int) := PySem.intText_digits hd (by show tl x ≠ []; rw [ex]; simp) (by rw [len_tl]; omega)
      have hb : numB x = !(decide (c = 48) && decide (tl x ≠ [48])) := by
        unfold numB
        rw [hg, Bool.true_and, ex]
        show (!(decide (some c = some 48) && _)) = _
        congr 2
        by_cases h : c = 48
        · rw [decide_eq_true h, h]
          rfl
        · rw [decide_eq_false h]
          exact decide_eq_false fun z => h (Option.some.inj z)
      have good : numB x = true → (G' : Hp) → Same G G' → Q (.int (PySem.NumText.digitsVal (tl x) : Nat)) G' := fun h G' s => by
        have := q G' s
        unfold numV at this
        rw [if_pos h] at this
        exact this
      have bad : numB x = false → Q .non G := fun h => by
        have := q G (Same.refl G)
        unfold numV at this
        rw [if_neg (by rw [h]; decide)] at this
        exact this
      have fin : numB x = true → Q (.int (PySem.NumText.digitsVal (tl x) : Nat)) G := fun h => good h G (Same.refl G)
      refine iteF ⟨_, rfl, x, rfl, hz, _, _, rfl, rfl, _, rfl, ?_⟩
      by_cases h2 : (1 : Int) < (x.length : Nat)
      · rw [decide_eq_true h2]
        have hx : tl x ≠ [48] := fun z => by
          rw [len_tl, z] at h2
          exact absurd h2 (by decide)
        rw [decide_eq_true hx, Bool.and_true] at hb
        refine iteT ⟨_, rfl, x, 0, c, rfl, rfl, hz, hx0, rfl, _, rfl, ?_⟩
        by_cases h0 : c = 48
        · rw [decide_eq_true ((one_sign c).1.mpr h0)]
          rw [decide_eq_true h0] at hb
          exact iteT (bad hb)
        · rw [decide_eq_false (fun z => h0 ((one_sign c).1.mp z))]
          rw [decide_eq_false h0] at hb
          exact iteF ⟨_, rfl, x, _, rfl, hin, by rw [len_tl]; omega, fin hb⟩
      · rw [decide_eq_false h2]
        have hr1 : r = [] := by
          rw [len_tl, ex, List.length_cons] at h2
          exact List.length_eq_zero_iff.mp (by omega)
        have hbt : numB x = true := by
          rw [hb, ex, hr1]
          by_cases h0 : c = 48
          · rw [h0]
            rfl
          · rw [decide_eq_false h0]
            rfl
        exact iteF (iteF ⟨_, rfl, x, _, rfl, hin, by rw [len_tl]; omega, fin hbt⟩)
/-! _law_part_in -/
abbrev sPI : Stmt := topS 52
abbrev nPI : List Str := ["_law_word_here","_law_sort","_law_some","_law_good","_law_one"]
theorem scPI : FnScope nPI ["_law_word_here","_law_sort"] (defScope sPI) := ⟨rfl, rfl, rfl, by decide +kernel, rfl, by decide +kernel, by decide +kernel⟩
/-- the kinds by one sign each -/
def Kd.sg : Kd → Nat
  | .name => 97
  | .word => 114
  | .words => 119
  | .row => 109
  | .number => 110
  | .bound => 111
/-- what the law reads: a name's line feeds are looked for in the whole line -/
def lrd : Kd → Str → Option Th
  | .name, x => if tl x = [] then none else some (.txt x)
  | .word, x => rdWord x
  | .words, x => rdWords x
  | .row, x => rdRow x
  | .number, x => rdNum x
  | .bound, x => rdBound x
theorem sg_eq (k k' : Kd) : decide (V.str ⟨#[k.sg]⟩ = V.str ⟨#[k'.sg]⟩) = decide (k = k') := by
  cases k <;> cases k' <;> decide
def PtOk (k : Kd) (x : Str) (b : Bool) (v : V) (G : Hp) : Prop := (∀ th, lrd k x = some th → b = true ∧ VTh G v th) ∧ (lrd k x = none → b = false)
def spPI : Sp := fun vs H Q _ => ∃ (k : Kd) (x : Str), vs = [.str x, .str ⟨#[k.sg]⟩] ∧ (tl x).length ≤ 12000 ∧ ∀ (T : Addr) (b : Bool) (v : V) H', Same H H' → H' T = some (.tup [.bl b, v]) → PtOk k x b v H' → Q (.ref T) H'
theorem ok_pi {f fNI fBA : Addr} {fd fdNI fdBA : FuncData} (F : Fun K "_law_part_in" "_law_part_in" sPI f fd) (B : BN mg)
    (GNI : FnOk P w K mg base CX0 1 fNI fdNI ["_law_word_here"] spNI) (nim : mg "_law_number_in" = some (.ref fNI)) (nik : PySem.W.keepIn K (.ref fNI) = true) (nib : Binds K fdNI ["_law_word_here"] [])
    (GBA : FnOk P w K mg base CX0 1 fBA fdBA ["_law_text"] spBA) (bam : mg "_law_bad_at" = some (.ref fBA)) (bak : PySem.W.keepIn K (.ref fBA) = true) (bab : Binds K fdBA ["_law_text"] []) :
    FnOk P w K mg base CX0 2 f fd ["_law_word_here","_law_sort"] spPI := by
  refine F.ok scPI (fun vs H Q E h => ?_) (fun cdv A outer s H vs Q E hr h => ?_)
  · obtain ⟨k, x, rfl, _⟩ := h
    rfl
  · obtain ⟨k, x, rfl, hl, q⟩ := h
    have r1 : Room 1 _ := hr.mono (by decide)
    refine ⟨_, (pss_cons (ps_if (pt_cmpR op_eq (pv 1) pe_str (nomark _))
        (pss_one (ps_ret (pe_tup (pa_cons (pe_cmpR op_ne (pv 0) pe_str (nomark _)) (pa_cons (pv 0) pa_nil)))))
        pss_nil)
      (pss_cons (ps_if (PW.pt (pw_or (pt_cmpR op_eq (pv 1) pe_str (nomark _)) (pw_or1 (PW.pt (pw_and (pt_cmpR op_eq (pv 1) pe_str (nomark _)) (pw_and1 (pt_cmpR op_ne (pv 0) pe_str (nomark _))))))))
        (pss_one (ps_ret (pe_tup (pa_cons (pe_cmpR op_notN (pe_call GNI r1 rfl nim nik nib .nil pass0 (pa_cons (pv 0) pa_nil)) pe_non (nomark _)) (pa_cons (pe_call GNI r1 rfl nim nik nib .nil pass0 (pa_cons (pv 0) pa_nil)) pa_nil)))))
        pss_nil)
      (pss_cons (ps_if (pt_cmpR op_eq (pv 1) pe_str (nomark _))
        (pss_one (ps_ret (pe_tup (pa_cons pe_bl (pa_cons pe_non pa_nil)))))
        pss_nil)
      (_root_.C8.pss_cut (ps_if (PW.pt (pw_and (pt_cmpR op_eq (pv 0) pe_str (nomark _)) (pw_and1 (pt_cmpR op_ne (pv 1) pe_str (nomark _)))))
        (pss_one (ps_ret (pe_tup (pa_cons pe_bl (pa_cons (pe_ifExp (pt_cmpR op_eq (pv 1) pe_str (nomark _)) (pe_tup pa_nil) pe_str) pa_nil)))))
        pss_nil)
      (_root_.C8.pss_cut (ps_set (i := 2) scPI.nd rfl (.inl rfl) (pe_ifExp (pt_cmpR op_eq (pv 1) pe_str (nomark _)) (pe_split (pv 0) pe_str) (pe_lst (pa_cons (pv 0) pa_nil))))
      (pss_cons (ps_set (i := 3) scPI.nd rfl (.inl rfl) (pe_callB (cr_all rfl) (by rfl) B.all (by decide +kernel) (pa_cons (pe_lc (own := [("_law_one", 4)]) (g := gName 4) (tt := tYes) rfl scPI.nd (pi_list (pv 2)) (blkOk_by (N := nPI) (sc := defScope sPI) (by decide +kernel)) (fun _ _ _ _ _ => pg_name (i := 4) scPI.nd rfl (Or.inl rfl)) (fun _ _ _ _ _ => pts_nil) (fun _ _ _ _ _ => (pe_and (pe_cmpR op_ne (pv 4) pe_str (nomark _)) (pe_one (pe_cmpR op_isN (pe_call GBA r1 rfl bam bak bab .nil pass0 (pa_cons (pv 4) pa_nil)) pe_non (nomark _)))))) pa_nil)))
      (pss_one (ps_ret (pe_tup (pa_cons (pv 3) (pa_cons (pe_ifExp (pt_cmpR op_eq (pv 1) pe_str (nomark _)) (pe_callTy call_tuple_of (by rfl) B.tup (by decide +kernel) (pa_cons (pv 2) pa_nil)) (pv 0)) pa_nil))))))))))), ?_⟩
    have pair : ∀ (G : Hp) (b : Bool) (v : V), Same H G → PtOk k x b v G → (2 ≤ sizeLine ∧ ∀ T, G T = none → Q (.ref T) (upd G T (.tup [.bl b, v]))) := fun G b v sG hp => by
      refine ⟨by decide, fun T nT => ?_⟩
      have sT := same_new (o := .tup [.bl b, v]) nT
      exact q T b v _ (sG.trans sT) upd_same ⟨fun th e => ⟨(hp.1 th e).1, (hp.1 th e).2.same sT⟩, hp.2⟩
    have numP : ∀ (G : Hp), (∀ th, rdNum x = some th → (!decide (numV x = V.non)) = true ∧ VTh G (numV x) th) ∧ (rdNum x = none → (!decide (numV x = V.non)) = false) := fun G => by
      unfold rdNum numV
      by_cases hb : numB x = true
      · rw [if_pos hb, if_pos hb]
        refine ⟨fun th e => ?_, fun e => by cases e⟩
        obtain rfl := Option.some.inj e
        exact ⟨rfl, rfl⟩
      · rw [if_neg hb, if_neg hb]
        exact ⟨fun th e => (by cases e), fun _ => rfl⟩
    refine ⟨_, rfl, rfl, _, rfl, ?_⟩
    rw [show decide (V.str ⟨#[k.sg]⟩ = V.str (Str.ofString "a")) = decide (k = .name) from sg_eq k .name]
    by_cases h1 : k = .name
    · subst h1
      refine iteT ⟨_, rfl, rfl, _, rfl, ?_⟩
      refine pair H (!decide (V.str x = V.str (Str.ofString ""))) (.str x) (Same.refl H) ⟨fun th e => ?_, fun e => ?_⟩
      · have e : (if tl x = [] then none else some (Th.txt x)) = some th := e
        by_cases h0 : tl x = []
        · rw [if_pos h0] at e
          cases e
        · rw [if_neg h0] at e
          obtain rfl := Option.some.inj e
          rw [decide_eq_false (fun z => h0 ((str_nil x).mp z))]
          exact ⟨rfl, rfl⟩
      · have e : (if tl x = [] then none else some (Th.txt x)) = none := e
        by_cases h0 : tl x = []
        · rw [decide_eq_true ((str_nil x).mpr h0)]
          rfl
        · rw [if_neg h0] at e
          cases e
    rw [decide_eq_false h1]
    refine iteF ⟨_, rfl, rfl, _, rfl, ?_⟩
    rw [show decide (V.str ⟨#[k.sg]⟩ = V.str (Str.ofString "n")) = decide (k = .number) from sg_eq k .number]
    by_cases h2 : k = .number
    · subst h2
      refine iteT (iteT ⟨_, rfl, x, rfl, hl, fun G1 s1 => ⟨rfl, _, rfl, x, rfl, hl, fun G2 s2 => ?_⟩⟩)
      exact pair G2 _ (numV x) (s1.trans s2) (numP G2)
    rw [decide_eq_false h2]
    refine iteF ⟨_, rfl, rfl, _, rfl, ?_⟩
    rw [show decide (V.str ⟨#[k.sg]⟩ = V.str (Str.ofString "o")) = decide (k = .bound) from sg_eq k .bound]
    have dn : tl dash = [45] := rfl
    by_cases h3 : k = .bound
    · subst h3
      refine iteT ⟨_, rfl, rfl, _, rfl, ?_⟩
      by_cases h0 : x = dash
      · rw [decide_eq_true (show V.str x = V.str (Str.ofString "-") by rw [h0]; rfl)]
        refine iteF ⟨_, rfl, rfl, _, rfl, iteT ?_⟩
        refine pair H true .non (Same.refl H) ⟨fun th e => ?_, fun e => ?_⟩
        · have e : (if x = dash then some Th.non else rdNum x) = some th := e
          rw [if_pos h0] at e
          obtain rfl := Option.some.inj e
          exact ⟨rfl, rfl⟩
        · have e : (if x = dash then some Th.non else rdNum x) = none := e
          rw [if_pos h0] at e
          cases e
      · rw [decide_eq_false (show ¬ V.str x = V.str (Str.ofString "-") from fun z => h0 (V.str.inj z))]
        refine iteT ⟨_, rfl, x, rfl, hl, fun G1 s1 => ⟨rfl, _, rfl, x, rfl, hl, fun G2 s2 => ?_⟩⟩
        refine pair G2 _ (numV x) (s1.trans s2) ?_
        have e : lrd .bound x = rdNum x := if_neg h0
        unfold PtOk
        rw [e]
        exact numP G2
    rw [decide_eq_false h3]
    refine iteF (iteF ⟨_, rfl, rfl, _, rfl, ?_⟩)
    rw [show decide (V.str ⟨#[k.sg]⟩ = V.str (Str.ofString "o")) = decide (k = .bound) from sg_eq k .bound, decide_eq_false h3]
    refine iteF ⟨fun σ G => (Same H G ∧ σ = [some (.str x), some (.str ⟨#[k.sg]⟩), none, none, none]) ∧ (x ≠ dash ∨ k = .word), ?_, ?_⟩
    · refine ⟨_, rfl, rfl, _, rfl, ?_⟩
      by_cases h0 : x = dash
      · rw [decide_eq_true (show V.str x = V.str (Str.ofString "-") by rw [h0]; rfl)]
        refine iteT ⟨_, rfl, rfl, _, rfl, ?_⟩
        rw [show decide (V.str ⟨#[k.sg]⟩ = V.str (Str.ofString "r")) = decide (k = .word) from sg_eq k .word]
        by_cases h4 : k = .word
        · rw [decide_eq_true h4]
          exact iteF ⟨⟨Same.refl H, rfl⟩, .inr h4⟩
        · rw [decide_eq_false h4]
          refine iteT ⟨_, rfl, rfl, _, rfl, ?_⟩
          rw [show decide (V.str ⟨#[k.sg]⟩ = V.str (Str.ofString "w")) = decide (k = .words) from sg_eq k .words]
          by_cases h5 : k = .words
          · rw [decide_eq_true h5]
            refine iteT ⟨by show 0 ≤ sizeLine; decide, fun U nU => ?_⟩
            refine pair _ true (.ref U) (same_new nU) ⟨fun th e => ?_, fun e => ?_⟩
            · rw [h5] at e
              have e : rdWords x = some th := e
              unfold rdWords at e
              rw [if_pos h0] at e
              obtain rfl := Option.some.inj e
              exact ⟨rfl, U, rfl, upd_same⟩
            · rw [h5] at e
              have e : rdWords x = none := e
              unfold rdWords at e
              rw [if_pos h0] at e
              cases e
          · rw [decide_eq_false h5]
            have h6 : k = .row := by cases k <;> first | rfl | contradiction
            refine iteF (pair H true (.str (Str.ofString "")) (Same.refl H) ⟨fun th e => ?_, fun e => ?_⟩)
            · rw [h6] at e
              have e : rdRow x = some th := e
              unfold rdRow at e
              rw [if_pos h0] at e
              obtain rfl := Option.some.inj e
              exact ⟨rfl, rfl⟩
            · rw [h6] at e
              have e : rdRow x = none := e
              unfold rdRow at e
              rw [if_pos h0] at e
              cases e
      · rw [decide_eq_false (show ¬ V.str x = V.str (Str.ofString "-") from fun z => h0 (V.str.inj z))]
        exact iteF (iteF ⟨⟨Same.refl H, rfl⟩, .inl h0⟩)
    rintro _ G0 ⟨⟨s0, rfl⟩, hd⟩
    refine ⟨fun σ G => ∃ (l : Addr) (ws : List Str), (Same H G ∧ σ = [some (.str x), some (.str ⟨#[k.sg]⟩), some (.ref l), none, none]) ∧ G l = some (.lst (ws.map V.str)) ∧ (∀ y ∈ ws, (tl y).length ≤ 12000) ∧ ws.length ≤ 12002 ∧ ws = (if k = .words then Txt.split x plus else [x]), ?_, ?_⟩
    · refine ⟨_, rfl, rfl, _, rfl, ?_⟩
      rw [show decide (V.str ⟨#[k.sg]⟩ = V.str (Str.ofString "w")) = decide (k = .words) from sg_eq k .words]
      by_cases h5 : k = .words
      · rw [decide_eq_true h5]
        refine iteT ⟨_, rfl, ⟨x, rfl⟩, x, plus, rfl, rfl, rfl, ?_, fun l nl => ?_⟩
        · rw [len_tl]
          exact Nat.le_trans (Nat.add_le_add_right hl 2) (by decide)
        refine ⟨l, Txt.split x plus, ⟨s0.trans (same_new nl), rfl⟩, upd_same, fun y hy => ?_, ?_, by rw [if_pos h5]⟩
        · rw [← len_tl]
          exact Nat.le_trans (split_short hy) (by rw [len_tl]; exact hl)
        · have := split_len' x
          rw [len_tl] at this
          omega
      · rw [decide_eq_false h5]
        refine iteF ⟨_, rfl, by show 1 ≤ sizeLine; decide, fun l nl => ⟨l, [x], ⟨s0.trans (same_new nl), rfl⟩, upd_same, fun y hy => ?_, by show 1 ≤ 12002; decide, by rw [if_neg h5]⟩⟩
        rw [List.mem_singleton.mp hy]
        exact hl
    rintro _ G ⟨l, ws, ⟨sG, rfl⟩, hl2, hsh, hwl, hws⟩
    refine ⟨_, rfl, l, rfl, ⟨_, SqL.of hl2⟩, fun D nD => ?_⟩
    refine lc_list (K := K) (a := l) (xs := ws.map V.str) (fun i H2 => Same G H2 ∧ H2 D = some (.lst (((ws.map wordOk).take i).map V.bl))) ⟨same_new nD, upd_same⟩ (fun i H2 _ h => SqL.of (h.1 _ _ hl2)) (fun i v H2 hv h => ?_) (fun H2 h => ?_)
    · obtain ⟨s2, h2⟩ := h
      rw [List.getElem?_map] at hv
      obtain ⟨y, ey, rfl⟩ := Option.map_eq_some_iff.mp hv
      have hy := List.mem_of_getElem? ey
      have hg : (ws.map wordOk)[i]? = some (wordOk y) := by
        rw [List.getElem?_map, ey]
        rfl
      have fin : ∀ (b : Bool) (H3 : Hp), Same H2 H3 → b = wordOk y → ∃ ys, H3 D = some (.lst ys) ∧ ys.length < sizeLine ∧ (Same G (upd H3 D (.lst (ys ++ [V.bl b]))) ∧ upd H3 D (.lst (ys ++ [V.bl b])) D = some (.lst (((ws.map wordOk).take (i + 1)).map V.bl))) := fun b H3 s3 eb => by
        refine ⟨_, s3 _ _ h2, ?_, same_put (s2.trans s3) nD, ?_⟩
        · rw [List.length_map, List.length_take, List.length_map]
          exact Nat.lt_of_le_of_lt (Nat.min_le_right _ _) (Nat.lt_of_le_of_lt hwl (by decide))
        · rw [upd_same, List.take_add_one, hg, List.map_append, eb]
          rfl
      refine ⟨rfl, _, rfl, rfl, ?_⟩
      by_cases h0 : tl y = []
      · rw [decide_eq_true ((str_nil y).mpr h0)]
        refine ⟨_, rfl, iteF (fin _ H2 (Same.refl H2) ?_)⟩
        unfold wordOk
        rw [show decide (tl y ≠ []) = false from decide_eq_false (fun z => z h0), Bool.false_and]
      · rw [decide_eq_false (fun z => h0 ((str_nil y).mp z))]
        refine ⟨_, rfl, iteT ⟨_, rfl, y, rfl, hsh y hy, fun H3 s3 => ⟨rfl, ?_⟩⟩⟩
        rw [vOpt_non]
        refine fin _ H3 s3 ?_
        unfold wordOk
        rw [show decide (tl y ≠ []) = true from decide_eq_true h0, Bool.true_and]
    obtain ⟨s2, h2⟩ := h
    rw [List.length_map, ← List.length_map (f := wordOk), List.take_length] at h2
    refine ⟨D, ws.map wordOk, rfl, SqL.of h2, ?_⟩
    have ea : (ws.map wordOk).all id = ws.all wordOk := by
      rw [List.all_map]
      rfl
    rw [ea]
    have s02 := sG.trans s2
    refine ⟨_, rfl, _, rfl, rfl, _, rfl, ?_⟩
    rw [show decide (V.str ⟨#[k.sg]⟩ = V.str (Str.ofString "w")) = decide (k = .words) from sg_eq k .words]
    by_cases h5 : k = .words
    · rw [decide_eq_true h5]
      refine iteT ⟨_, rfl, l, _, rfl, .inl ⟨SqL.of (s2 _ _ hl2), fun U nU => ?_⟩⟩
      refine pair _ (ws.all wordOk) (.ref U) (s02.trans (same_new nU)) ?_
      have e : lrd k x = if (ws.all wordOk) = true then some (.wds ws) else none := by
        rw [hws, if_pos h5, h5]
        show rdWords x = _
        unfold rdWords
        rw [if_neg (fun z => hd.elim (fun a => a z) fun a => by rw [h5] at a; cases a)]
      unfold PtOk
      rw [e]
      cases ea : ws.all wordOk with
      | true => exact ⟨fun th e => by rw [if_pos rfl] at e; obtain rfl := Option.some.inj e; exact ⟨rfl, U, rfl, upd_same⟩, fun e => by rw [if_pos rfl] at e; cases e⟩
      | false => exact ⟨fun th e => (by cases e), fun _ => rfl⟩
    · rw [decide_eq_false h5]
      refine iteF ⟨_, rfl, pair _ (ws.all wordOk) (.str x) s02 ?_⟩
      have e : lrd k x = if (ws.all wordOk) = true then some (.txt x) else none := by
        rw [hws, if_neg h5, List.all_cons, List.all_nil, Bool.and_true, ← rdWord_is]
        cases k with
        | word => rfl
        | row =>
          show rdRow x = _
          unfold rdRow
          rw [if_neg (fun z => hd.elim (fun a => a z) fun a => by cases a)]
        | name => exact absurd rfl h1
        | number => exact absurd rfl h2
        | bound => exact absurd rfl h3
        | words => exact absurd rfl h5
      unfold PtOk
      rw [e]
      cases ea : ws.all wordOk with
      | true => exact ⟨fun th e => by rw [if_pos rfl] at e; obtain rfl := Option.some.inj e; exact ⟨rfl, rfl⟩, fun e => by rw [if_pos rfl] at e; cases e⟩
      | false => exact ⟨fun th e => (by cases e), fun _ => rfl⟩
end
end K46

set_option Elab.async false
set_option linter.all false
set_option maxRecDepth 100000
set_option maxHeartbeats 4000000
namespace K46
open PySem PySem.Spec PyProof.Rows L2 Pw TL
section
variable {P : Program} {w : World} {K : PySem.W.Frag} {mg : Str → Option Value} {base : Heap}
/-- what the law reads of a line's parts -/
def readsL : List Kd → List Str → Option (List Th)
  | [], [] => some []
  | k :: ks, x :: xs => match lrd k x, readsL ks xs with
    | some t, some ts => some (t :: ts)
    | _, _ => none
  | _, _ => none
theorem readsL_len : ∀ {ks : List Kd} {xs : List Str} {ths : List Th}, readsL ks xs = some ths → ks.length = xs.length
  | [], [], ths, h => rfl
  | k :: ks, x :: xs, ths, h => by
    unfold readsL at h
    cases e1 : lrd k x with
    | none =>
      rw [e1] at h
      cases h
    | some t =>
      cases e2 : readsL ks xs with
      | none =>
        rw [e1, e2] at h
        cases h
      | some ts =>
        rw [List.length_cons, List.length_cons, readsL_len e2]
  | [], _ :: _, _, h => nomatch h
  | _ :: _, [], _, h => nomatch h
/-- the rows that part_in tells -/
inductive PRes (G : Hp) : List Kd → List Str → List Addr → List Bool → List V → Prop
  | nil : PRes G [] [] [] [] []
  | cons {k : Kd} {x : Str} {t : Addr} {b : Bool} {v : V} {ks : List Kd} {xs : List Str} {ts : List Addr} {bs : List Bool} {us : List V} (h : G t = some (.tup [.bl b, v])) (p : PtOk k x b v G) (r : PRes G ks xs ts bs us) : PRes G (k :: ks) (x :: xs) (t :: ts) (b :: bs) (v :: us)
theorem PtOk.same {k : Kd} {x : Str} {b : Bool} {v : V} {G G' : Hp} (h : PtOk k x b v G) (s : Same G G') : PtOk k x b v G' := ⟨fun th e => ⟨(h.1 th e).1, (h.1 th e).2.same s⟩, h.2⟩
theorem PRes.same {G G' : Hp} {ks : List Kd} {xs : List Str} {ts : List Addr} {bs : List Bool} {us : List V} (h : PRes G ks xs ts bs us) (s : Same G G') : PRes G' ks xs ts bs us := by
  induction h with
  | nil => exact .nil
  | cons h p _ ih => exact .cons (s _ _ h) (p.same s) ih
theorem PRes.put {G : Hp} {D : Addr} {o : HO} {acc : List V} {ks : List Kd} {xs : List Str} {ts : List Addr} {bs : List Bool} {us : List V} (h : PRes G ks xs ts bs us) (hD : G D = some (.lst acc)) : PRes (upd G D o) ks xs ts bs us := by
  have keep : ∀ b ys, G b = some (.tup ys) → upd G D o b = some (.tup ys) := fun b ys e => by
    rw [upd_ne (fun z => by rw [z, hD] at e; cases e)]
    exact e
  induction h with
  | nil => exact .nil
  | @cons k x t b v _ _ _ _ _ h p _ ih =>
    refine .cons (keep _ _ h) ⟨fun th e => ⟨(p.1 th e).1, ?_⟩, p.2⟩ ih
    have hv := (p.1 th e).2
    cases th with
    | non => exact hv
    | num n => exact hv
    | txt x => exact hv
    | wds ws =>
      obtain ⟨t, e, ht⟩ := hv
      exact ⟨t, e, keep _ _ ht⟩
theorem PRes.snoc {G : Hp} {ks : List Kd} {xs : List Str} {ts : List Addr} {bs : List Bool} {us : List V} {k : Kd} {x : Str} {t : Addr} {b : Bool} {v : V} (h : PRes G ks xs ts bs us) (e : G t = some (.tup [.bl b, v])) (p : PtOk k x b v G) : PRes G (ks ++ [k]) (xs ++ [x]) (ts ++ [t]) (bs ++ [b]) (us ++ [v]) := by
  induction h with
  | nil => exact .cons e p .nil
  | cons h q _ ih => exact .cons h q ih
theorem PRes.len {G : Hp} {ks : List Kd} {xs : List Str} {ts : List Addr} {bs : List Bool} {us : List V} (h : PRes G ks xs ts bs us) : ts.length = ks.length ∧ bs.length = ts.length ∧ us.length = ts.length := by
  induction h with
  | nil => exact ⟨rfl, rfl, rfl⟩
  | cons _ _ _ ih =>
    rw [List.length_cons, List.length_cons, List.length_cons, List.length_cons, ih.1, ih.2.1, ih.2.2, ih.1]
    exact ⟨rfl, rfl, rfl⟩
theorem PRes.at {G : Hp} {ks : List Kd} {xs : List Str} {ts : List Addr} {bs : List Bool} {us : List V} (h : PRes G ks xs ts bs us) : ∀ (i : Nat) (t : Addr), ts[i]? = some t → ∃ b v, bs[i]? = some b ∧ us[i]? = some v ∧ G t = some (.tup [.bl b, v]) := by
  induction h with
  | nil =>
    intro i t e
    cases e
  | cons h p _ ih =>
    intro i t e
    cases i with
    | zero =>
      obtain rfl := Option.some.inj e
      exact ⟨_, _, rfl, rfl, h⟩
    | succ i => exact ih i t e
theorem PRes.out {G : Hp} {ks : List Kd} {xs : List Str} {ts : List Addr} {bs : List Bool} {us : List V} (h : PRes G ks xs ts bs us) : (bs.all id = true → ∃ ths, readsL ks xs = some ths ∧ VThs G us ths) ∧ (bs.all id = false → readsL ks xs = none) := by
  induction h with
  | nil => exact ⟨fun _ => ⟨[], rfl, .nil⟩, fun z => by cases z⟩
  | @cons k x t b v ks xs ts bs us h p r ih =>
    have un : readsL (k :: ks) (x :: xs) = (match lrd k x, readsL ks xs with | some t, some ts => some (t :: ts) | _, _ => none) := rfl
    rw [un]
    cases e : lrd k x with
    | none =>
      have hb := p.2 e
      subst hb
      exact ⟨fun z => (by cases z), fun _ => rfl⟩
    | some th =>
      obtain ⟨hb, hv⟩ := p.1 th e
      subst hb
      refine ⟨fun z => ?_, fun z => ?_⟩
      · obtain ⟨ths, e2, hvs⟩ := ih.1 z
        rw [e2]
        exact ⟨th :: ths, rfl, .cons hv hvs⟩
      · rw [ih.2 z]
/-! _law_parts_in -/
abbrev sPP : Stmt := topS 53
abbrev nPP : List Str := ["_law_some","_law_form","_law_found","_law_word_here","_law_row_here","_law_sort"]
theorem scPP : FnScope nPP ["_law_some","_law_form"] (defScope sPP) := ⟨rfl, rfl, rfl, by decide +kernel, rfl, by decide +kernel, by decide +kernel⟩
def lettersS (ks : List Kd) : Str := ⟨(ks.map Kd.sg).toArray⟩
theorem tl_letters (ks : List Kd) : tl (lettersS ks) = ks.map Kd.sg := by
  show ((ks.map Kd.sg).toArray).toList = _
  simp
def spPP : Sp := fun vs H Q _ => ∃ (a : Addr) (ks : List Kd) (xs : List Str), vs = [.ref a, .str (lettersS ks)] ∧ H a = some (.lst (xs.map V.str)) ∧ ks.length ≤ 5 ∧ (∀ x ∈ xs, (tl x).length ≤ 12000) ∧
  (∀ ths, readsL ks xs = some ths → ∀ (T : Addr) (us : List V) H', Same H H' → H' T = some (.tup us) → VThs H' us ths → Q (.ref T) H') ∧ (readsL ks xs = none → ∀ H', Same H H' → Q .non H')
theorem ok_pp {f fPI : Addr} {fd fdPI : FuncData} (F : Fun K "_law_parts_in" "_law_parts_in" sPP f fd) (B : BN mg) (mz : mg "zip" = none)
    (GPI : FnOk P w K mg base CX0 2 fPI fdPI ["_law_word_here","_law_sort"] spPI) (pim : mg "_law_part_in" = some (.ref fPI)) (pik : PySem.W.keepIn K (.ref fPI) = true) (pib : Binds K fdPI ["_law_word_here","_law_sort"] []) :
    FnOk P w K mg base CX0 3 f fd ["_law_some","_law_form"] spPP := by
  refine F.ok scPP (fun vs H Q E h => ?_) (fun cdv A outer s H vs Q E hr h => ?_)
  · obtain ⟨a, ks, xs, rfl, _⟩ := h
    rfl
  · obtain ⟨a, ks, xs, rfl, ha, h5, hsh, q1, q2⟩ := h
    have r2 : Room 2 _ := hr.mono (by decide)
    have lf : (lettersS ks).length = ks.length := by
      rw [len_tl, tl_letters, List.length_map]
    refine ⟨_, (pss_cons (ps_if (pt_cmpR op_ne (pe_callB call_len_seq (by rfl) B.len PySem.boot_len (pa_cons (pv 0) pa_nil)) (pe_callB call_len_str (by rfl) B.len PySem.boot_len (pa_cons (pv 1) pa_nil)) (nomark _))
        (pss_one (ps_ret pe_non))
        pss_nil)
      (pss_cons (ps_setLc (i := 2) (own := [("_law_word_here", 3), ("_law_sort", 5)]) (g := gTup K 2 (gCons (gName 3) (gCons (gName 5) gNil))) (tt := tYes) rfl scPP.nd rfl rfl (sw_true rfl rfl rfl (by decide +kernel)) (pi_zipD (by rfl) mz (pa_cons (pv 0) (pa_cons (pv 1) pa_nil))) (blkOk_by (N := nPP) (sc := defScope sPP) (by decide +kernel)) (fun _ _ _ _ _ => pg_tup rfl (pgs_cons (pg_name (i := 3) scPP.nd rfl (Or.inl rfl)) (pgs_cons (pg_name (i := 5) scPP.nd rfl (Or.inl rfl)) pgs_nil))) (fun _ _ _ _ _ => pts_nil) (fun _ _ _ _ _ => (pe_call GPI r2 rfl pim pik pib .nil pass0 (pa_cons (pv 3) (pa_cons (pv 5) pa_nil)))))
      (pss_cons (ps_if (pt_not (pt_val (pe_callB (cr_all rfl) (by rfl) B.all (by decide +kernel) (pa_cons (pe_lc (own := [("_law_row_here", 4)]) (g := gName 4) (tt := tYes) rfl scPP.nd (pi_list (pv 2)) (blkOk_by (N := nPP) (sc := defScope sPP) (by decide +kernel)) (fun _ _ _ _ _ => pg_name (i := 4) scPP.nd rfl (Or.inl rfl)) (fun _ _ _ _ _ => pts_nil) (fun _ _ _ _ _ => (pe_ix (r := rIxT K) ix_tup (pv 4) pe_int (fun _ _ => rfl)))) pa_nil))))
        (pss_one (ps_ret pe_non))
        pss_nil)
      (pss_one (ps_ret (pe_callTy call_tuple_of (by rfl) B.tup (by decide +kernel) (pa_cons (pe_lc (own := [("_law_row_here", 4)]) (g := gName 4) (tt := tYes) rfl scPP.nd (pi_list (pv 2)) (blkOk_by (N := nPP) (sc := defScope sPP) (by decide +kernel)) (fun _ _ _ _ _ => pg_name (i := 4) scPP.nd rfl (Or.inl rfl)) (fun _ _ _ _ _ => pts_nil) (fun _ _ _ _ _ => (pe_ix (r := rIxT K) ix_tup (pv 4) pe_int (fun _ _ => rfl)))) pa_nil))))))), ?_⟩
    refine ⟨_, rfl, a, _, rfl, .inl (SqL.of ha), _, rfl, _, rfl, (by rw [lf]; exact Nat.le_trans h5 (by decide)), rfl, _, rfl, ?_⟩
    rw [List.length_map, lf]
    by_cases hne : xs.length = ks.length
    rotate_left
    · have hd : decide (V.int (xs.length : Nat) = V.int (ks.length : Nat)) = false := decide_eq_false (fun z => hne (by have := V.int.inj z; omega))
      rw [hd]
      refine iteT (q2 ?_ H (Same.refl H))
      cases e : readsL ks xs with
      | none => rfl
      | some ths => exact absurd (readsL_len e).symm hne
    have hd : decide (V.int (xs.length : Nat) = V.int (ks.length : Nat)) = true := decide_eq_true (by rw [hne])
    rw [hd]
    refine iteF ⟨_, rfl, _, rfl, .lst a, .str (lettersS ks), _, _, rfl, SqL.of ha, rfl, fun D nD => ?_⟩
    have lc : (chV (lettersS ks)).length = ks.length := by
      unfold chV
      rw [List.length_map, tl_letters, List.length_map]
    refine lc_it (walk_zipD (xs := xs.map V.str) (ys := chV (lettersS ks)) (n := ks.length) (by rw [List.length_map, lc, hne]; exact (Nat.min_self _).symm)) (fun i G => Same H G ∧ ∃ ts bs us, G D = some (.lst (ts.map V.ref)) ∧ PRes G (ks.take i) (xs.take i) ts bs us)
      ⟨same_new nD, [], [], [], upd_same, by rw [List.take_zero, List.take_zero]; exact .nil⟩ (fun i G _ h => ⟨SqL.of (h.1 _ _ ha), rfl⟩) (fun i v G G' hi h y => ?_) (fun G h => ?_)
    · obtain ⟨sG, ts, bs, us, hD, hp⟩ := h
      obtain ⟨T2, xk, xt, rfl, nT, rfl, e1, e2⟩ := y
      have e1 : (xs.map V.str)[i]? = some xk := e1
      rw [List.getElem?_map] at e1
      obtain ⟨x, ex, rfl⟩ := Option.map_eq_some_iff.mp e1
      have e2 : (chV (lettersS ks))[i]? = some xt := e2
      unfold chV at e2
      rw [List.getElem?_map, tl_letters, List.getElem?_map, Option.map_map] at e2
      obtain ⟨k, ek, rfl⟩ := Option.map_eq_some_iff.mp e2
      have sT : Same G (upd G T2 (.tup [.str x, .str ⟨#[k.sg]⟩])) := same_new nT
      refine ⟨T2, _, rfl, .inl (.inl upd_same), rfl, _, _, rfl, _, _, rfl, rfl, rfl, ?_⟩
      refine ⟨_, rfl, _, rfl, k, x, rfl, hsh x (List.mem_of_getElem? ex), fun T b v H3 s3 hT hP => ⟨_, s3 _ _ (sT _ _ hD), ?_, same_put (sG.trans (sT.trans s3)) nD, ts ++ [T], bs ++ [b], us ++ [v], by rw [upd_same, List.map_append]; rfl, ?_⟩⟩
      · rw [List.length_map, hp.len.1, List.length_take]
        exact Nat.lt_of_le_of_lt (Nat.min_le_right _ _) (Nat.lt_of_le_of_lt h5 (by decide))
      · rw [List.take_add_one, List.take_add_one, ek, ex]
        exact ((hp.same (sT.trans s3)).snoc hT hP).put (s3 _ _ (sT _ _ hD))
    obtain ⟨sG, ts, bs, us, hD, hp⟩ := h
    rw [List.take_length, List.take_of_length_le (by rw [hne]; exact Nat.le_refl _)] at hp
    have hlt : ts.length ≤ 5 := by
      rw [hp.len.1]
      exact h5
    refine ⟨_, rfl, D, rfl, ⟨_, SqL.of hD⟩, fun D2 nD2 => ?_⟩
    refine lc_list (K := K) (a := D) (xs := ts.map V.ref) (fun i G2 => Same G G2 ∧ G2 D2 = some (.lst ((bs.take i).map V.bl))) ⟨same_new nD2, by rw [List.take_zero]; exact upd_same⟩ (fun i G2 _ h => SqL.of (h.1 _ _ hD)) (fun i v G2 hv h => ?_) (fun G2 h => ?_)
    · obtain ⟨s2, h2⟩ := h
      rw [List.getElem?_map] at hv
      obtain ⟨t, et, rfl⟩ := Option.map_eq_some_iff.mp hv
      obtain ⟨b, v, eb, ev, ht⟩ := hp.at i t et
      refine ⟨rfl, _, rfl, t, _, 0, _, rfl, rfl, SqT.of (s2 _ _ ht), rfl, _, h2, ?_, same_put s2 nD2, ?_⟩
      · rw [List.length_map, List.length_take]
        exact Nat.lt_of_le_of_lt (Nat.min_le_right _ _) (by rw [hp.len.2.1]; exact Nat.lt_of_le_of_lt hlt (by decide))
      · rw [upd_same, List.take_add_one, eb, List.map_append]
        rfl
    obtain ⟨s2, h2⟩ := h
    rw [List.length_map, List.take_of_length_le (by rw [hp.len.2.1]; exact Nat.le_refl _)] at h2
    refine ⟨D2, bs, rfl, SqL.of h2, _, rfl, ?_⟩
    cases hall : bs.all id with
    | false => exact iteT (q2 (hp.out.2 hall) G2 (sG.trans s2))
    | true =>
      obtain ⟨ths, er, hvs⟩ := hp.out.1 hall
      refine iteF ⟨_, rfl, D, rfl, ⟨_, SqL.of (s2 _ _ hD)⟩, fun D3 nD3 => ?_⟩
      refine lc_list (K := K) (a := D) (xs := ts.map V.ref) (fun i G3 => Same G2 G3 ∧ G3 D3 = some (.lst (us.take i))) ⟨same_new nD3, by rw [List.take_zero]; exact upd_same⟩ (fun i G3 _ h => SqL.of (h.1 _ _ (s2 _ _ hD))) (fun i v G3 hv h => ?_) (fun G3 h => ?_)
      · obtain ⟨s3, h3⟩ := h
        rw [List.getElem?_map] at hv
        obtain ⟨t, et, rfl⟩ := Option.map_eq_some_iff.mp hv
        obtain ⟨b, v, eb, ev, ht⟩ := hp.at i t et
        refine ⟨rfl, _, rfl, t, _, 1, _, rfl, rfl, SqT.of (s3 _ _ (s2 _ _ ht)), rfl, _, h3, ?_, same_put s3 nD3, ?_⟩
        · rw [List.length_take]
          exact Nat.lt_of_le_of_lt (Nat.min_le_right _ _) (by rw [hp.len.2.2]; exact Nat.lt_of_le_of_lt hlt (by decide))
        · rw [upd_same, List.take_add_one, ev]
          rfl
      obtain ⟨s3, h3⟩ := h
      rw [List.length_map, List.take_of_length_le (by rw [hp.len.2.2]; exact Nat.le_refl _)] at h3
      refine ⟨D3, us, rfl, .inl ⟨SqL.of h3, fun T nT => ?_⟩⟩
      have s4 := s3.trans (same_new (o := .tup us) nT)
      exact q1 ths er T us _ (sG.trans (s2.trans s4)) upd_same (hvs.same (s2.trans s4))
end
end K46

set_option Elab.async false
set_option linter.all false
set_option maxRecDepth 100000
set_option maxHeartbeats 4000000
namespace K46
open PySem PySem.Spec PyProof.Rows L2 Pw TL
section
variable {P : Program} {w : World} {K : PySem.W.Frag} {mg : Str → Option Value} {base : Heap}
/-! _law_bent_text -/
abbrev sBN : Stmt := topS 54
abbrev nBN : List Str := ["_law_draw","_law_text","_law_signs","_law_at","_law_sign","_law_some","_law_one","_law_way","_law_odd"]
theorem scBN : FnScope nBN ["_law_draw","_law_text"] (defScope sBN) := ⟨rfl, rfl, rfl, by decide +kernel, rfl, by decide +kernel, by decide +kernel⟩
def spBN : Sp := fun vs H Q _ => ∃ (p q : Addr) (ns : List Int) (x : Str), vs = [.ref p, .str x] ∧ Dr p q ns H ∧ x.length ≤ 6000 ∧ ∀ (z : Str) H', z.length ≤ 2 * x.length + 12 → Go p q ns H H' → Q (.str z) H'
theorem len_app (a b : Str) : (a ++ b).length = a.length + b.length := by
  rw [len_tl, tl_append, List.length_append, ← len_tl, ← len_tl]
def bsg : Str := Str.ofString " \n-+01a29?A"
def odds : List Str := ["", "-", "00", "01", "1000000", "999999", "0", "+", "0+", "0+1+", "2", "rule", "-1", "?"]
theorem ok_bn {f : Addr} {fd : FuncData} (F : Fun K "_law_bent_text" "_law_bent_text" sBN f fd) (B : BN mg) (R : PUOk P w K mg base) : FnOk P w K mg base CX0 2 f fd ["_law_draw","_law_text"] spBN := by
  obtain ⟨fPU, fdPU, GPU, pum, puk, pub⟩ := R.ex
  refine F.ok scBN (fun vs H Q E h => ?_) (fun cdv A outer s H vs Q E hr h => ?_)
  · obtain ⟨p, q, ns, x, rfl, _⟩ := h
    rfl
  · obtain ⟨p, q, ns, x, rfl, hD, hx, k⟩ := h
    have r1 : Room 1 _ := hr.mono (by decide)
    have big : 100000 ≤ sizeLine := by decide
    refine ⟨_, (pss_cons (ps_set (i := 2) scBN.nd rfl (.inl rfl) pe_str)
      (pss_cons (ps_set (i := 3) scBN.nd rfl (.inl rfl) (pe_call GPU r1 rfl pum puk pub .nil pass0 (pa_cons (pv 0) (pa_cons (pe_op op_add (pe_callB call_len_str (by rfl) B.len PySem.boot_len (pa_cons (pv 1) pa_nil)) pe_int) pa_nil))))
      (pss_cons (ps_set (i := 4) scBN.nd rfl (.inl rfl) (pe_ix ix_str (pv 2) (pe_call GPU r1 rfl pum puk pub .nil pass0 (pa_cons (pv 0) (pa_cons pe_int pa_nil))) (fun _ _ => rfl)))
      (pss_cons (ps_set (i := 5) scBN.nd rfl (.inl rfl) (pe_split (pv 1) pe_str))
      (pss_cons (ps_set (i := 6) scBN.nd rfl (.inl rfl) (pe_call GPU r1 rfl pum puk pub .nil pass0 (pa_cons (pv 0) (pa_cons (pe_callB call_len_seq (by rfl) B.len PySem.boot_len (pa_cons (pv 5) pa_nil)) pa_nil))))
      (_root_.C8.pss_cut (ps_set (i := 7) scBN.nd rfl (.inl rfl) (pe_call GPU r1 rfl pum puk pub .nil pass0 (pa_cons (pv 0) (pa_cons pe_int pa_nil))))
      (_root_.C8.pss_cut (ps_if (pt_cmpR op_lt (pv 7) pe_int (nomark _))
        (pss_one (ps_ret (pe_op op_add_str (pe_op op_add_str (pe_slice sl_str (pv 1) po_none (po_some (pv 3))) (pe_ix ix_list (pe_lst (pa_cons (pv 4) (pa_cons pe_str (pa_cons (pv 4) pa_nil)))) (pv 7) (fun _ _ => rfl))) (pe_slice sl_str (pv 1) (po_some (pe_op op_add (pv 3) (pe_callTy call_int1 (by rfl) B.int (by decide +kernel) (pa_cons (pe_cmpR op_gt (pv 7) pe_int (nomark _)) pa_nil)))) po_none))))
        pss_nil)
      (_root_.C8.pss_cut (ps_if (pt_cmpR op_eq (pv 7) pe_int (nomark _))
        (pss_one (ps_ret (pe_join pe_str (pe_op op_cat (pe_slice sl_list (pv 5) po_none (po_some (pv 6))) (pe_slice sl_list (pv 5) (po_some (pe_op op_add (pv 6) pe_int)) po_none)))))
        pss_nil)
      (_root_.C8.pss_cut (ps_if (pt_cmpR op_eq (pv 7) pe_int (nomark _))
        (pss_one (ps_ret (pe_join pe_str (pe_op op_cat (pv 5) (pe_lst (pa_cons (pe_ix ix_list (pv 5) (pv 6) (fun _ _ => rfl)) pa_nil))))))
        pss_nil)
      (pss_cons (ps_set (i := 8) scBN.nd rfl (.inl rfl) (pe_lst (pa_cons pe_str (pa_cons pe_str (pa_cons pe_str (pa_cons pe_str (pa_cons pe_str (pa_cons pe_str (pa_cons pe_str (pa_cons pe_str (pa_cons pe_str (pa_cons pe_str (pa_cons pe_str (pa_cons pe_str (pa_cons pe_str (pa_cons pe_str pa_nil))))))))))))))))
      (pss_cons (ps_asg (pe_ix ix_list (pv 8) (pe_call GPU r1 rfl pum puk pub .nil pass0 (pa_cons (pv 0) (pa_cons pe_int pa_nil))) (fun _ _ => rfl)) (pg_sub (pv 5) (pv 6) set_list))
      (pss_one (ps_ret (pe_join pe_str (pv 5))))))))))))))), ?_⟩
    refine ⟨_, rfl, _, rfl, x, rfl, by omega, _, _, rfl, rfl, p, q, ns, _, rfl, by omega, by omega, hD, fun at0 H1 a0 a1 sx1 hD1 => ?_⟩
    have g1 := (Go.refl hD).next sx1 hD1
    refine ⟨_, rfl, _, rfl, p, q, ns, 11, rfl, by decide, by decide, hD1, fun sv H2 s0 s1 sx2 hD2 => ?_⟩
    have g2 := g1.next sx2 hD2
    obtain ⟨c, hc⟩ : ∃ c, atI (tl bsg) sv = some c := by
      obtain ⟨n, rfl⟩ := Int.eq_ofNat_of_zero_le s0
      have hl : (tl bsg).length = 11 := by decide +kernel
      exact ⟨(tl bsg)[n]'(by omega), atI_nat (List.getElem?_eq_getElem (by omega))⟩
    refine ⟨bsg, sv, c, rfl, rfl, by decide +kernel, hc, ?_⟩
    have htot : totS (Txt.split x blank1) = x.length + 1 := split_tot (c := 32) (by decide) x
    refine ⟨_, rfl, ⟨x, rfl⟩, x, blank1, rfl, rfl, rfl, by omega, fun l nl => ?_⟩
    have nlH := g2.free nl
    have pl := hD.nn nlH
    have ql : l ≠ q := (ne_of_none hD.1 nlH).symm
    have g3 : Go p q ns H (upd H2 l (.lst ((Txt.split x blank1).map V.str))) := g2.new nl
    have hne : Txt.split x blank1 ≠ [] := split_some (c := 32) (by decide) x
    have hpl := totS_len (Txt.split x blank1)
    have hpos : 0 < (Txt.split x blank1).length := List.length_pos_iff.mpr hne
    refine ⟨_, rfl, _, rfl, l, _, rfl, .inl (SqL.of upd_same), p, q, ns, _, rfl, by rw [List.length_map]; omega, by rw [List.length_map]; omega, g3.dr, fun on H3 o0 o1 sx3 hD3 => ?_⟩
    have g4 := g3.next sx3 hD3
    have hl3 := sx3 _ _ (upd_same (a := l) (o := .lst ((Txt.split x blank1).map V.str)) (H := H2)) pl
    rw [List.length_map] at o1
    obtain ⟨one, rfl⟩ := Int.eq_ofNat_of_zero_le o0
    obtain ⟨at1, rfl⟩ := Int.eq_ofNat_of_zero_le a0
    generalize hps : Txt.split x blank1 = ps at *
    refine ⟨fun σ G => ∃ wy : Nat, (σ = [some (.ref p), some (.str x), some (.str bsg), some (.int (at1 : Nat)), some (.str ⟨#[c]⟩), some (.ref l), some (.int (one : Nat)), some (.int (wy : Nat)), none] ∧ wy < 7) ∧ Go p q ns H G ∧ G l = some (.lst (ps.map V.str)), ?_, ?_⟩
    · refine ⟨_, rfl, p, q, ns, 7, rfl, by decide, by decide, g4.dr, fun wy H4 w0 w1 sx4 hD4 => ?_⟩
      obtain ⟨wy, rfl⟩ := Int.eq_ofNat_of_zero_le w0
      exact ⟨wy, ⟨rfl, by omega⟩, g4.next sx4 hD4, sx4 _ _ hl3 pl⟩
    rintro _ G ⟨wy, ⟨rfl, hwy⟩, gG, hlG⟩
    clear g1 g2 g3 g4 sx1 sx2 sx3 hD1 hD2 hD3 hl3
    obtain ⟨pc, epc⟩ : ∃ y, ps[one]? = some y := ⟨_, List.getElem?_eq_getElem (by omega)⟩
    have hpc := totS_mem (List.mem_of_getElem? epc)
    refine ⟨fun σ G' => (σ = [some (.ref p), some (.str x), some (.str bsg), some (.int (at1 : Nat)), some (.str ⟨#[c]⟩), some (.ref l), some (.int (one : Nat)), some (.int (wy : Nat)), none]) ∧ G = G', ?_, ?_⟩
    · refine ⟨_, rfl, _, _, rfl, rfl, _, rfl, ?_⟩
      by_cases h3 : ((wy : Nat) : Int) < 3
      · rw [decide_eq_true h3]
        obtain ⟨z, hz, hzl⟩ : ∃ z : Str, atI [V.str ⟨#[c]⟩, V.str (Str.ofString ""), V.str ⟨#[c]⟩] ((wy : Nat) : Int) = some (.str z) ∧ z.length ≤ 1 := by
          have : wy = 0 ∨ wy = 1 ∨ wy = 2 := by omega
          rcases this with rfl | rfl | rfl
          · exact ⟨_, rfl, Nat.le_refl _⟩
          · exact ⟨_, rfl, Nat.zero_le _⟩
          · exact ⟨_, rfl, Nat.le_refl _⟩
        have c1 := cutS_len x none (some ((at1 : Nat) : Int))
        refine iteT ⟨_, rfl, _, rfl, _, rfl, x, rfl, by omega, _, rfl, _, rfl, by show 3 ≤ sizeLine; decide, fun L nL => ?_⟩
        refine ⟨_, rfl, L, _, _, .str z, rfl, rfl, SqL.of upd_same, hz, _, _, rfl, rfl, by omega, ?_⟩
        refine ⟨_, rfl, _, rfl, _, rfl, _, _, rfl, rfl, .inr ⟨_, rfl, _, _, rfl, rfl, _, rfl, x, rfl, by omega, ?_⟩⟩
        have c2 := fun o => cutS_len x (some o) none
        refine ⟨_, _, rfl, rfl, ?_, k _ _ ?_ (gG.new nL)⟩
        · refine Nat.le_trans (Nat.add_le_add (Nat.le_of_eq (len_app _ _)) (c2 _)) ?_
          omega
        · rw [len_app, len_app]
          have := c2 (((at1 : Nat) : Int) + if decide ((0 : Int) < ((wy : Nat) : Int)) = true then 1 else 0)
          omega
      · rw [decide_eq_false h3]
        exact iteF ⟨rfl, rfl⟩
    rintro _ _ ⟨rfl, rfl⟩
    refine ⟨fun σ G' => (σ = [some (.ref p), some (.str x), some (.str bsg), some (.int (at1 : Nat)), some (.str ⟨#[c]⟩), some (.ref l), some (.int (one : Nat)), some (.int (wy : Nat)), none]) ∧ G = G', ?_, ?_⟩
    · refine ⟨_, rfl, rfl, _, rfl, ?_⟩
      by_cases h3 : wy = 3
      · rw [decide_eq_true (by rw [h3]; rfl)]
        have e2 : cutV (ps.map V.str) (some (((one : Nat) : Int) + 1)) none = (ps.drop (one + 1)).map V.str := cutV_drop V.str ps (one + 1)
        have t1 := totS_take one ps
        have t2 : ps.drop one = pc :: ps.drop (one + 1) := by
          obtain ⟨h1, h2⟩ := List.getElem?_eq_some_iff.mp epc
          rw [List.drop_eq_getElem_cons h1, h2]
        rw [t2, totS_cons] at t1
        refine iteT ⟨⟨_, rfl⟩, _, rfl, _, rfl, _, rfl, l, _, rfl, SqL.of hlG, fun s1 n1 => ?_⟩
        have h1 := same_new (o := .lst (cutV (ps.map V.str) none (some ((one : Nat) : Int)))) n1
        refine ⟨_, rfl, _, rfl, _, _, rfl, rfl, _, rfl, l, _, rfl, SqL.of (h1 _ _ hlG), fun s2 n2 => ?_⟩
        have h2 := same_new (o := .lst (cutV (ps.map V.str) (some (((one : Nat) : Int) + 1)) none)) n2
        refine ⟨s1, s2, _, _, rfl, rfl, h2 _ _ upd_same, upd_same, ?_, fun p2 np => ?_⟩
        · rw [e2, cutV_take, List.length_map, List.length_map]
          have a1 := totS_len (ps.take one)
          have a2 := totS_len (ps.drop (one + 1))
          omega
        rw [e2, cutV_take] at np
        rw [e2, cutV_take, ← List.map_append]
        rw [e2, cutV_take] at h2
        rw [cutV_take] at h1 n2
        have t3 := totS_app (ps.take one) (ps.drop (one + 1))
        have t4 := join_tot 32 (ps.take one ++ ps.drop (one + 1))
        refine ⟨_, p2, ps.take one ++ ps.drop (one + 1), rfl, rfl, .inl (SqL.of upd_same), ?_, k _ _ ?_ (((gG.new n1).new n2).new np)⟩
        · show ((ps.take one ++ ps.drop (one + 1)).map (·.length)).sum + (ps.take one ++ ps.drop (one + 1)).length * 1 ≤ 16777216
          have : totS (ps.take one ++ ps.drop (one + 1)) ≤ 16777216 := by omega
          unfold totS at this
          omega
        · have t4 : (Txt.join blank1 (ps.take one ++ ps.drop (one + 1))).length ≤ _ := t4
          show (Txt.join blank1 _).length ≤ _
          omega
      · rw [decide_eq_false (fun z => h3 (by have := V.int.inj z; omega))]
        exact iteF ⟨rfl, rfl⟩
    rintro _ _ ⟨rfl, rfl⟩
    refine ⟨fun σ G' => (σ = [some (.ref p), some (.str x), some (.str bsg), some (.int (at1 : Nat)), some (.str ⟨#[c]⟩), some (.ref l), some (.int (one : Nat)), some (.int (wy : Nat)), none]) ∧ G = G', ?_, ?_⟩
    · refine ⟨_, rfl, rfl, _, rfl, ?_⟩
      by_cases h3 : wy = 4
      · rw [decide_eq_true (by rw [h3]; rfl)]
        have hat : atI (ps.map V.str) ((one : Nat) : Int) = some (.str pc) := atI_nat (by rw [List.getElem?_map, epc]; rfl)
        have t3 := totS_app ps [pc]
        have t5 : totS [pc] = pc.length + 1 + 0 := totS_cons pc []
        have t4 := join_tot 32 (ps ++ [pc])
        refine iteT ⟨⟨_, rfl⟩, _, rfl, _, rfl, _, rfl, l, _, _, .str pc, rfl, rfl, SqL.of hlG, hat, by show 1 ≤ sizeLine; decide, fun s1 n1 => ?_⟩
        have h1 := same_new (o := .lst [V.str pc]) n1
        refine ⟨l, s1, _, _, rfl, rfl, h1 _ _ hlG, upd_same, ?_, fun p2 np => ?_⟩
        · rw [List.length_map]
          show ps.length + 1 ≤ sizeLine
          omega
        rw [show ps.map V.str ++ [V.str pc] = (ps ++ [pc]).map V.str by rw [List.map_append]; rfl]
        refine ⟨_, p2, ps ++ [pc], rfl, rfl, .inl (SqL.of upd_same), ?_, k _ _ ?_ ((gG.new n1).new np)⟩
        · show ((ps ++ [pc]).map (·.length)).sum + (ps ++ [pc]).length * 1 ≤ 16777216
          have : totS (ps ++ [pc]) ≤ 16777216 := by omega
          unfold totS at this
          omega
        · have t4 : (Txt.join blank1 (ps ++ [pc])).length ≤ _ := t4
          show (Txt.join blank1 _).length ≤ _
          omega
      · rw [decide_eq_false (fun z => h3 (by have := V.int.inj z; omega))]
        exact iteF ⟨rfl, rfl⟩
    rintro _ _ ⟨rfl, rfl⟩
    refine ⟨by show 14 ≤ sizeLine; decide, fun L nL => ?_⟩
    have gL := gG.new (o := .lst (odds.map V.str)) nL
    have sL := same_new (o := .lst (odds.map V.str)) nL
    refine ⟨_, rfl, _, rfl, p, q, ns, 14, rfl, by decide, by decide, gL.dr, fun v H4 v0 v1 sx4 hD4 => ?_⟩
    have g4 := gL.next sx4 hD4
    obtain ⟨v, rfl⟩ := Int.eq_ofNat_of_zero_le v0
    have ho : odds.length = 14 := rfl
    obtain ⟨o, eo⟩ : ∃ o, odds[v]? = some o := ⟨_, List.getElem?_eq_getElem (by omega)⟩
    have hol : o.length ≤ 7 := by
      have all : ∀ z ∈ odds, z.length ≤ 7 := by decide +kernel
      exact all o (List.mem_of_getElem? eo)
    have hat : atI (odds.map V.str) ((v : Nat) : Int) = some (.str o) := atI_nat (by rw [List.getElem?_map, eo]; rfl)
    have hL4 : H4 L = some (.lst (odds.map V.str)) := sx4 _ _ upd_same (gG.dr.nn nL)
    have hl4 : H4 l = some (.lst (ps.map V.str)) := sx4 _ _ (sL _ _ hlG) pl
    refine ⟨L, _, _, .str o, rfl, rfl, SqL.of hL4, hat, ?_⟩
    refine ⟨_, rfl, _, rfl, l, _, _, one, rfl, rfl, hl4, ?_, ?_⟩
    · rw [List.length_map]
      unfold ixN
      rw [if_pos o0, if_pos (by omega), Int.toNat_natCast]
    have t1 := totS_set o ps one
    have t4 := join_tot 32 (ps.set one o)
    rw [← List.map_set]
    refine ⟨⟨_, rfl⟩, _, rfl, _, l, ps.set one o, rfl, rfl, .inl (SqL.of upd_same), ?_, k _ _ ?_ (g4.put nlH pl ql)⟩
    · show ((ps.set one o).map (·.length)).sum + (ps.set one o).length * 1 ≤ 16777216
      have : totS (ps.set one o) ≤ 16777216 := by omega
      unfold totS at this
      omega
    · have t4 : (Txt.join blank1 (ps.set one o)).length ≤ _ := t4
      show (Txt.join blank1 _).length ≤ _
      omega
end
end K46

set_option Elab.async false
set_option linter.all false
set_option maxRecDepth 100000
set_option maxHeartbeats 4000000
namespace K46
open PySem PySem.Spec PyProof.Rows L2 Pw TL
section
variable {P : Program} {w : World} {K : PySem.W.Frag} {mg : Str → Option Value} {base : Heap}
/-! _law_rule_word -/
abbrev sRU : Stmt := topS 46
theorem scRU : FnScope ["_law_r", "_law_bars", "_law_least", "_law_upper", "_law_wide", "_law_good", "_law_plain", "_law_word_here"] ["_law_r"] (defScope sRU) := ⟨rfl, rfl, rfl, by decide +kernel, rfl, by decide +kernel, by decide +kernel⟩
/-- the word of a rule's parts -/
def ruleWord (xs : List Str) (lo : Int) (hi wd : Option Int) : Str := match partBad xs lo hi wd with
  | none => Str.ofString ""
  | some s => Str.ofString "badrule " ++ s
/-- texts of moderate size -/
def Fine (xs : List Str) : Prop := ∀ x ∈ xs, (tl x).length ≤ 12000
def spRU : Sp := fun vs H Q _ => ∃ (T t : Addr) (xs : List Str) (lo : Int) (hi wd : Option Int), vs = [.ref T] ∧ Parts H T t xs lo hi wd ∧ xs.length ≤ 12100 ∧ Fine xs ∧ ∀ H', Same H H' → Q (.str (ruleWord xs lo hi wd)) H'
theorem word6 (x : Str) : (decide (0 < (x.length : Int)) && decide ((x.length : Int) < 6) && (strange (tl x)).isNone) = wordB x := by
  unfold wordB
  rw [len_tl]
  congr 1
  by_cases h : 1 ≤ (tl x).length ∧ (tl x).length ≤ 5
  · rw [decide_eq_true h, decide_eq_true (by omega), decide_eq_true (by omega)]
    rfl
  · rw [decide_eq_false h]
    by_cases h2 : 0 < ((tl x).length : Int)
    · rw [decide_eq_false (p := ((tl x).length : Int) < 6) (by omega), Bool.and_false]
    · rw [decide_eq_false h2, Bool.false_and]
theorem ok_ru {f fB : Addr} {fd fdB : FuncData} (F : Fun K "_law_rule_word" "_law_rule_word" sRU f fd) (B : BN mg) (ms : mg "set" = none) (G : FnOk P w K mg base CX0 1 fB fdB ["_law_text"] spBA) (gm : mg "_law_bad_at" = some (.ref fB)) (gk : PySem.W.keepIn K (.ref fB) = true) (gb : Binds K fdB ["_law_text"] []) :
    FnOk P w K mg base CX0 2 f fd ["_law_r"] spRU := by
  refine F.ok scRU (fun vs H Q E h => ?_) (fun cdv A outer s H vs Q E hr h => ?_)
  · obtain ⟨T, t, xs, lo, hi, wd, rfl, _⟩ := h
    rfl
  · obtain ⟨T, t, xs, lo, hi, wd, rfl, ⟨hT, ht⟩, h60, hx, q⟩ := h
    refine ⟨_, pss_cons (ps_asg (pv 0) (pg_tup rfl (pgs_cons (pg_name (i := 1) scRU.nd rfl (.inl rfl)) (pgs_cons (pg_name (i := 2) scRU.nd rfl (.inl rfl)) (pgs_cons (pg_name (i := 3) scRU.nd rfl (.inl rfl)) (pgs_cons (pg_name (i := 4) scRU.nd rfl (.inl rfl)) pgs_nil))))))
      (C8.pss_cut (ps_set (i := 5) scRU.nd rfl (.inl rfl) (pe_and (pe_cmpR op_lt (pe_callB call_len_seq (by rfl) B.len PySem.boot_len (pa_cons (pv 1) pa_nil)) pe_int (nomark _)) (pe_one (pe_cmpR op_eq (pe_lenD rfl (by rfl) B.len (by rfl) ms (pv 1)) (pe_callB call_len_seq (by rfl) B.len PySem.boot_len (pa_cons (pv 1) pa_nil)) (nomark _)))))
      (pss_cons (ps_set (i := 6) scRU.nd rfl (.inl rfl) (pe_callB (cr_all rfl) (by rfl) B.all (by decide +kernel) (pa_cons (pe_lc (own := [("_law_word_here", 7)]) (g := gName 7) (tt := tYes) rfl scRU.nd (pi_tup (pv 1))
        (blkOk_by (N := ["_law_r", "_law_bars", "_law_least", "_law_upper", "_law_wide", "_law_good", "_law_plain", "_law_word_here"]) (sc := defScope sRU) (by decide +kernel)) (fun _ _ _ _ _ => pg_name (i := 7) scRU.nd rfl (Or.inl rfl)) (fun _ _ _ _ _ => pts_nil)
        (fun _ _ _ _ _ => pe_and (pe_chain op_lt op_lt pe_int (pe_callB call_len_str (by rfl) B.len PySem.boot_len (pa_cons (pv 7) pa_nil)) pe_int) (pe_one (pe_cmpR op_isN (pe_call G hr rfl gm gk gb .nil pass0 (pa_cons (pv 7) pa_nil)) pe_non (nomark _))))) pa_nil)))
      (pss_cons (ps_if (PW.pt (pw_or (pt_not (pt_val (pv 5))) (pw_or1 (pt_not (pt_val (pv 6)))))) (pss_one (ps_ret pe_str)) pss_nil)
      (pss_cons (ps_if (pt_not (pt_chain op_le op_le pe_int (pv 2) pe_int)) (pss_one (ps_ret pe_str)) pss_nil)
      (pss_cons (ps_if (PW.pt (pw_and (pt_cmpR op_notN (pv 3) pe_non (nomark _)) (pw_and1 (pt_not (pt_chain op_le op_le (pe_callB (call_max2 rfl) (by rfl) B.max (by decide +kernel) (pa_cons pe_int (pa_cons (pv 2) pa_nil))) (pv 3) pe_int))))) (pss_one (ps_ret pe_str)) pss_nil)
      (pss_one (ps_ret (pe_ifExp (PW.pt (pw_and (pt_cmpR op_notN (pv 4) pe_non (nomark _)) (pw_and1 (pt_not (pt_chain op_le op_le pe_int (pv 4) pe_int))))) pe_str pe_str)))))))), ?_⟩
    have sq : SqT K H t (xs.map V.str) := .inl (.inl ht)
    have hlen : (xs.map V.str).length = xs.length := List.length_map ..
    refine ⟨_, rfl, T, _, rfl, .inl (.inl hT), rfl, _, _, rfl, _, _, rfl, _, _, rfl, _, _, rfl, rfl, ?_⟩
    refine ⟨fun σ H1 => σ = [some (.ref T), some (.ref t), some (.int lo), some (vI hi), some (vI wd), some (.bl (decide (xs.length ≤ 6) && decide (cntD xs = xs.length))), none, none] ∧ H = H1, ?_, ?_⟩
    · refine ⟨_, rfl, t, _, rfl, .inr sq, _, _, rfl, rfl, _, rfl, ?_⟩
      rw [hlen]
      by_cases h7 : ((xs.length : Nat) : Int) < 7
      · rw [decide_eq_true h7]
        refine iteT ⟨_, rfl, t, xs, rfl, .inr sq, by omega, _, rfl, t, _, rfl, .inr sq, rfl, ?_⟩
        rw [hlen]
        have e : decide (V.int (cntD xs : Nat) = V.int (xs.length : Nat)) = decide (cntD xs = xs.length) := by
          by_cases h : cntD xs = xs.length
          · rw [decide_eq_true h, h]
            exact decide_eq_true rfl
          · rw [decide_eq_false h]
            refine decide_eq_false fun z => h ?_
            have := V.int.inj z
            omega
        rw [decide_eq_true (p := xs.length ≤ 6) (by omega), Bool.true_and, ← e]
        exact ⟨rfl, rfl⟩
      · rw [decide_eq_false h7]
        refine iteF ?_
        rw [decide_eq_false (p := xs.length ≤ 6) (by omega), Bool.false_and]
        exact ⟨rfl, rfl⟩
    rintro _ _ ⟨rfl, rfl⟩
    refine ⟨_, rfl, t, rfl, ⟨_, sq⟩, fun D nD => ?_⟩
    refine lc_tup (K := K) (a := t) (xs := xs.map V.str) (fun i H2 => Same H H2 ∧ H2 D = some (.lst (((xs.map wordB).take i).map V.bl)))
      ⟨same_new nD, upd_same⟩ (fun i H2 _ h => .inl (.inl (h.1 _ _ ht))) (fun i v H2 hv h => ?_) (fun H2 h => ?_)
    · obtain ⟨s2, h3⟩ := h
      rw [List.getElem?_map] at hv
      cases hz : xs[i]? with
      | none =>
        rw [hz] at hv
        cases hv
      | some z =>
        rw [hz] at hv
        obtain rfl : V.str z = v := Option.some.inj hv
        have hg : (xs.map wordB)[i]? = some (wordB z) := by
          rw [List.getElem?_map, hz]
          rfl
        have hzl := hx z (List.mem_of_getElem? hz)
        have hzz : z.length ≤ sizeLine := by
          rw [len_tl]
          exact Nat.le_trans hzl (by decide)
        have fin : ∀ (b : Bool) (H3 : Hp), Same H2 H3 → b = wordB z → ∃ ys, H3 D = some (.lst ys) ∧ ys.length < sizeLine ∧ (Same H (upd H3 D (.lst (ys ++ [V.bl b]))) ∧ upd H3 D (.lst (ys ++ [V.bl b])) D = some (.lst (((xs.map wordB).take (i + 1)).map V.bl))) := fun b H3 s3 eb => by
          refine ⟨_, s3 _ _ h3, ?_, same_put (s2.trans s3) nD, ?_⟩
          · rw [List.length_map, List.length_take, List.length_map]
            exact Nat.lt_of_le_of_lt (Nat.min_le_right _ _) (Nat.lt_of_le_of_lt h60 (by decide))
          · rw [upd_same, List.take_add_one, hg, List.map_append, eb]
            rfl
        have w6 := word6 z
        refine ⟨rfl, _, rfl, z, rfl, hzz, _, _, rfl, rfl, _, rfl, ?_⟩
        by_cases h0 : (0 : Int) < (z.length : Nat)
        · rw [decide_eq_true h0] at w6 ⊢
          refine iteT ⟨_, _, rfl, rfl, _, rfl, ?_⟩
          by_cases h6 : ((z.length : Nat) : Int) < 6
          · rw [decide_eq_true h6] at w6 ⊢
            refine iteT ⟨_, rfl, z, rfl, hzl, fun H3 s3 => ⟨rfl, ?_⟩⟩
            rw [vOpt_non]
            exact fin _ H3 s3 w6
          · rw [decide_eq_false h6] at w6 ⊢
            exact iteF (fin _ H2 (Same.refl H2) w6)
        · rw [decide_eq_false h0] at w6 ⊢
          exact iteF ⟨_, rfl, iteF (fin _ H2 (Same.refl H2) w6)⟩
    · obtain ⟨s2, h3⟩ := h
      rw [hlen, ← List.length_map (f := wordB), List.take_length] at h3
      refine ⟨D, xs.map wordB, rfl, SqL.of h3, ?_⟩
      have q' : ∀ z : Str, ruleWord xs lo hi wd = z → Q (.str z) H2 := fun z e => by
        rw [← e]
        exact q H2 s2
      clear q
      have ea : (xs.map wordB).all id = xs.all wordB := by
        rw [List.all_map]
        rfl
      rw [ea]
      have eW : wordsB xs = ((decide (xs.length ≤ 6) && decide (cntD xs = xs.length)) && xs.all wordB) := rfl
      cases hg1 : (decide (xs.length ≤ 6) && decide (cntD xs = xs.length)) with
      | false =>
        rw [hg1, Bool.false_and] at eW
        refine ⟨_, rfl, _, rfl, iteT (iteT (q' _ ?_))⟩
        unfold ruleWord partBad
        rw [if_neg (by rw [eW]; decide)]
        rfl
      | true =>
        rw [hg1, Bool.true_and] at eW
        refine ⟨_, rfl, _, rfl, iteF ⟨_, rfl, _, rfl, ?_⟩⟩
        cases ha1 : xs.all wordB with
        | false =>
          rw [ha1] at eW
          refine iteT (q' _ ?_)
          unfold ruleWord partBad
          rw [if_neg (by rw [eW]; decide)]
          rfl
        | true =>
          rw [ha1] at eW
          refine iteF ⟨_, rfl, _, _, rfl, rfl, _, rfl, ?_⟩
          have q1 : ∀ z : Str, (match (if lowB lo = true then (if highB lo hi = true then (if spanB wd = true then none else some (Str.ofString "span")) else some (Str.ofString "high")) else some (Str.ofString "low")) with | none => Str.ofString "" | some s => Str.ofString "badrule " ++ s) = z → Q (.str z) H2 := fun z e => q' z (by
            unfold ruleWord partBad
            rw [if_pos eW]
            exact e)
          clear q'
          have bad1 : lowB lo = false → Q (.str (Str.ofString "badrule low")) H2 := fun z => q1 _ (by rw [if_neg (by rw [z]; decide)]; rfl)
          by_cases h0 : (0 : Int) ≤ lo
          · rw [decide_eq_true h0]
            refine iteT ⟨_, _, rfl, rfl, _, rfl, ?_⟩
            by_cases h3' : lo ≤ 3
            · rw [decide_eq_true h3']
              refine iteF ?_
              have hlo : lowB lo = true := decide_eq_true ⟨h0, h3'⟩
              rw [hlo] at q1
              have hB : highB lo hi = false → Q (.str (Str.ofString "badrule high")) H2 := fun z => q1 _ (by rw [if_pos rfl, if_neg (by rw [z]; decide)]; rfl)
              have hS1 : highB lo hi = true → spanB wd = true → Q (.str (Str.ofString "")) H2 := fun z z2 => q1 _ (by rw [if_pos rfl, if_pos z, if_pos z2])
              have hS2 : highB lo hi = true → spanB wd = false → Q (.str (Str.ofString "badrule span")) H2 := fun z z2 => q1 _ (by rw [if_pos rfl, if_pos z, if_neg (by rw [z2]; decide)]; rfl)
              clear q1 bad1
              cases hi with
              | none =>
                refine ⟨.non, rfl, rfl, _, rfl, iteF (iteF ?_)⟩
                cases wd with
                | none =>
                  exact ⟨.non, rfl, rfl, _, rfl, iteF (iteF (hS1 rfl rfl))⟩
                | some k =>
                  refine ⟨.int k, rfl, rfl, _, rfl, iteT ⟨_, rfl, _, _, rfl, rfl, _, rfl, ?_⟩⟩
                  by_cases k1 : (1 : Int) ≤ k
                  · rw [decide_eq_true k1]
                    refine iteT ⟨_, _, rfl, rfl, _, rfl, ?_⟩
                    by_cases k4 : k ≤ 4
                    · rw [decide_eq_true k4]
                      exact iteF (hS1 rfl (decide_eq_true ⟨k1, k4⟩))
                    · rw [decide_eq_false k4]
                      exact iteT (hS2 rfl (decide_eq_false (fun z => k4 z.2)))
                  · rw [decide_eq_false k1]
                    exact iteF ⟨_, rfl, iteT (hS2 rfl (decide_eq_false (fun z => k1 z.1)))⟩
              | some g =>
                refine ⟨.int g, rfl, rfl, _, rfl, iteT ⟨_, rfl, _, _, rfl, _, rfl, _, _, rfl, rfl, _, rfl, ?_⟩⟩
                rw [max_if]
                by_cases g1 : max 1 lo ≤ g
                · rw [decide_eq_true g1]
                  refine iteT ⟨_, _, rfl, rfl, _, rfl, ?_⟩
                  by_cases g7 : g ≤ 7
                  · rw [decide_eq_true g7]
                    refine iteF ?_
                    cases wd with
                    | none =>
                      exact ⟨.non, rfl, rfl, _, rfl, iteF (iteF (hS1 (decide_eq_true ⟨g1, g7⟩) rfl))⟩
                    | some k =>
                      refine ⟨.int k, rfl, rfl, _, rfl, iteT ⟨_, rfl, _, _, rfl, rfl, _, rfl, ?_⟩⟩
                      by_cases k1 : (1 : Int) ≤ k
                      · rw [decide_eq_true k1]
                        refine iteT ⟨_, _, rfl, rfl, _, rfl, ?_⟩
                        by_cases k4 : k ≤ 4
                        · rw [decide_eq_true k4]
                          exact iteF (hS1 (decide_eq_true ⟨g1, g7⟩) (decide_eq_true ⟨k1, k4⟩))
                        · rw [decide_eq_false k4]
                          exact iteT (hS2 (decide_eq_true ⟨g1, g7⟩) (decide_eq_false (fun z => k4 z.2)))
                      · rw [decide_eq_false k1]
                        exact iteF ⟨_, rfl, iteT (hS2 (decide_eq_true ⟨g1, g7⟩) (decide_eq_false (fun z => k1 z.1)))⟩
                  · rw [decide_eq_false g7]
                    exact iteT (hB (decide_eq_false (fun z => g7 z.2)))
                · rw [decide_eq_false g1]
                  exact iteF ⟨_, rfl, iteT (hB (decide_eq_false (fun z => g1 z.1)))⟩
            · rw [decide_eq_false h3']
              exact iteT (bad1 (decide_eq_false (fun z => h3' z.2)))
          · rw [decide_eq_false h0]
            exact iteF ⟨_, rfl, iteT (bad1 (decide_eq_false (fun z => h0 z.1)))⟩
end
end K46

set_option Elab.async false
set_option linter.all false
set_option maxRecDepth 100000
set_option maxHeartbeats 4000000
namespace K46
open PySem PySem.Spec PyProof.Rows L2 Pw TL
section
variable {P : Program} {w : World} {K : PySem.W.Frag} {mg : Str → Option Value} {base : Heap}
/-! _law_far -/
abbrev sFA : Stmt := topS 45
theorem scFA : FnScope ["_law_draw", "_law_number"] ["_law_draw"] (defScope sFA) := ⟨rfl, rfl, rfl, by decide +kernel, rfl, by decide +kernel, by decide +kernel⟩
abbrev big1 : Nat := 20000000000000000000000000000
abbrev big2 : Nat := 30000000000000000000000000000
structure Szs (lo : Int) (hi wd : Option Int) : Prop where
  a : lo.natAbs ≤ big1
  b : ∀ h, hi = some h → h.natAbs ≤ big2
  c : ∀ h, wd = some h → h.natAbs ≤ big2
theorem szs_good {xs : List Str} {lo : Int} {hi wd : Option Int} (h : partBad xs lo hi wd = none) : Szs lo hi wd := by
  obtain ⟨l0, l3, hh, hw⟩ := parts_inv h
  refine ⟨?_, fun g e => ?_, fun g e => ?_⟩
  · have : lo.natAbs ≤ 3 := by omega
    exact Nat.le_trans this (by decide)
  · have := hh g e
    have : g.natAbs ≤ 7 := by omega
    exact Nat.le_trans this (by decide)
  · have := hw g e
    have : g.natAbs ≤ 4 := by omega
    exact Nat.le_trans this (by decide)
def spFA : Sp := fun vs H Q _ => ∃ (p q : Addr) (ns : List Int), vs = [.ref p] ∧ Dr p q ns H ∧ ∀ (i : Int) H', i.natAbs ≤ big1 → Go p q ns H H' → Q (.int i) H'
theorem ok_fa {f : Addr} {fd : FuncData} (F : Fun K "_law_far" "_law_far" sFA f fd) (R : PUOk P w K mg base) : FnOk P w K mg base CX0 2 f fd ["_law_draw"] spFA := by
  obtain ⟨fR, fdR, G, gm, gk, gb⟩ := R.ex
  refine F.ok scFA (fun vs H Q E h => ?_) (fun cdv A outer s H vs Q E hr h => ?_)
  · obtain ⟨p, q, ns, rfl, _⟩ := h
    rfl
  · obtain ⟨p, q, ns, rfl, hD, k⟩ := h
    refine ⟨_, pss_cons (ps_set (i := 1) scFA.nd rfl (.inl rfl) (pe_op op_add (pe_op op_add pe_int (pe_call G hr rfl gm gk gb .nil pass0 (pa_cons (pv 0) (pa_cons (pe_op op_pow pe_int pe_int) pa_nil))))
        (pe_op op_mul (pe_call G hr rfl gm gk gb .nil pass0 (pa_cons (pv 0) (pa_cons pe_int pa_nil))) (pe_op op_pow pe_int pe_int))))
      (pss_one (ps_ret (pe_ifExp (pt_cmpR op_eq (pe_call G hr rfl gm gk gb .nil pass0 (pa_cons (pv 0) (pa_cons pe_int pa_nil))) pe_int (nomark _)) (pv 1) (pe_un un_neg (pv 1))))), ?_⟩
    have e28 : (10 : Int) ^ Int.toNat 28 = 10000000000000000000000000000 := rfl
    have e9 : (10 : Int) ^ Int.toNat 9 = 1000000000 := rfl
    refine ⟨.ref p, rfl, 10, 9, rfl, rfl, ⟨by decide, by decide, by decide⟩, p, q, ns, _, rfl, by decide, by decide, hD, fun v H1 v0 v1 sx1 hD1 => ?_⟩
    refine ⟨_, _, rfl, rfl, .ref p, rfl, p, q, ns, 2, rfl, by decide, by decide, hD1, fun u H2 u0 u1 sx2 hD2 => ?_⟩
    refine ⟨10, 28, rfl, rfl, ⟨by decide, by decide, by decide⟩, _, _, rfl, rfl, .inl ⟨by omega, by omega⟩, _, _, rfl, rfl, ?_⟩
    refine ⟨.ref p, rfl, p, q, ns, 2, rfl, by decide, by decide, hD2, fun t H3 _ _ sx3 hD3 => ⟨rfl, _, rfl, ite2 (fun _ => ?_) (fun _ => ?_)⟩⟩
    · exact ⟨_, rfl, k _ H3 (by show (_ : Int).natAbs ≤ 20000000000000000000000000000; rw [e9] at v1; rw [e28]; omega) ((((Go.refl hD).next sx1 hD1).next sx2 hD2).next sx3 hD3)⟩
    · exact ⟨_, rfl, _, rfl, k _ H3 (by show (_ : Int).natAbs ≤ 20000000000000000000000000000; rw [e9] at v1; rw [e28]; omega) ((((Go.refl hD).next sx1 hD1).next sx2 hD2).next sx3 hD3)⟩
/-- parts, good or bad -/
def spPO (N : Nat) : Sp := fun vs H Q _ => ∃ (p q : Addr) (ns : List Int), vs = [.ref p] ∧ Dr p q ns H ∧ ∀ (T t : Addr) (xs : List Str) (lo : Int) (hi wd : Option Int) H', xs.length ≤ N → Short xs → Szs lo hi wd → H T = none → H t = none → Parts H' T t xs lo hi wd → Go p q ns H H' → Q (.ref T) H'
end
section
variable {P : Program} {w : World} {K : PySem.W.Frag} {mg : Str → Option Value} {base : Heap}
/-! _law_odd_parts -/
abbrev sOD : Stmt := topS 47
theorem scOD : FnScope ["_law_draw", "_law_bars", "_law_least", "_law_upper", "_law_wide", "_law_turn", "_law_way", "_law_k"] ["_law_draw"] (defScope sOD) := ⟨rfl, rfl, rfl, by decide +kernel, rfl, by decide +kernel, by decide +kernel⟩
theorem Go.mut {p q l : Addr} {ns : List Int} {H H1 : Hp} {o : HO} (g : Go p q ns H H1) (hD : Dr p q ns H) (n : H l = none) : Go p q ns H (upd H1 l o) := by
  have n1 : l ≠ p := hD.nn n
  have n2 : l ≠ q := (ne_of_none hD.1 n).symm
  refine ⟨fun b x e ne => ?_, g.dr.upd n1 n2⟩
  rw [upd_ne (ne_of_none e n)]
  exact g.sx b x e ne
/-- between the turns, and within one -/
def OJ (p q : Addr) (ns : List Int) (H : Hp) (N : Nat) : L2.St → Hp → Prop := fun σ H1 => ∃ (l : Addr) (xs : List Str) (lo : Int) (hi wd : Option Int) (y5 : Option V) (v : Int), σ = [some (.ref p), some (.ref l), some (.int lo), some (vI hi), some (vI wd), y5, some (.int v), none] ∧ H1 l = some (.lst (xs.map V.str)) ∧ H l = none ∧ xs.length ≤ N ∧ Short xs ∧ Szs lo hi wd ∧ Go p q ns H H1
theorem ok_od {f fP fF fW : Addr} {fd fdP fdF fdW : FuncData} (F : Fun K "_law_odd_parts" "_law_odd_parts" sOD f fd) (B : BN mg) (R : PUOk P w K mg base)
    (GP : FnOk P w K mg base CX0 5 fP fdP ["_law_draw"] (spPA 6)) (pm : mg "_law_parts" = some (.ref fP)) (pk : PySem.W.keepIn K (.ref fP) = true) (pb : Binds K fdP ["_law_draw"] [])
    (GF : FnOk P w K mg base CX0 2 fF fdF ["_law_draw"] spFA) (fm : mg "_law_far" = some (.ref fF)) (fk : PySem.W.keepIn K (.ref fF) = true) (fb : Binds K fdF ["_law_draw"] [])
    (GW : FnOk P w K mg base CX0 3 fW fdW ["_law_draw"] spWD) (wm : mg "_law_word" = some (.ref fW)) (wk : PySem.W.keepIn K (.ref fW) = true) (wb : Binds K fdW ["_law_draw"] []) :
    FnOk P w K mg base CX0 6 f fd ["_law_draw"] (spPO 30) := by
  obtain ⟨fR, fdR, G, gm, gk, gb⟩ := R.ex
  refine F.ok scOD (fun vs H Q E h => ?_) (fun cdv A outer s H vs Q E hr h => ?_)
  · obtain ⟨p, q, ns, rfl, _⟩ := h
    rfl
  · obtain ⟨p, q, ns, rfl, hD, k⟩ := h
    have hr1 : Room 1 _ := hr.mono (by decide)
    have hr2 : Room 2 _ := hr.mono (by decide)
    have hr3 : Room 3 _ := hr.mono (by decide)
    refine ⟨_, pss_cons (ps_asg (pe_call GP hr rfl pm pk pb .nil pass0 (pa_cons (pv 0) pa_nil)) (pg_tup rfl (pgs_cons (pg_name (i := 1) scOD.nd rfl (.inl rfl)) (pgs_cons (pg_name (i := 2) scOD.nd rfl (.inl rfl)) (pgs_cons (pg_name (i := 3) scOD.nd rfl (.inl rfl)) (pgs_cons (pg_name (i := 4) scOD.nd rfl (.inl rfl)) pgs_nil))))))
      (pss_cons (ps_set (i := 1) scOD.nd rfl (.inl rfl) (pe_callTy call_list_of (by rfl) B.lst (by decide +kernel) (pa_cons (pv 1) pa_nil)))
      (pss_cons (ps_for PassesOwn.never rfl (pi_range1 rfl B.rng (pa_cons (pe_call G hr1 rfl gm gk gb .nil pass0 (pa_cons (pv 0) (pa_cons pe_int pa_nil))) pa_nil)) (pg_name (i := 5) scOD.nd rfl (.inl rfl))
        (pss_cons (ps_set (i := 6) scOD.nd rfl (.inl rfl) (pe_call G hr1 rfl gm gk gb .nil pass0 (pa_cons (pv 0) (pa_cons pe_int pa_nil))))
        (C8.pss_cut (ps_if (pt_cmpR op_eq (pv 6) pe_int (nomark _)) (pss_one (ps_set (i := 2) scOD.nd rfl (.inl rfl) (pe_ix ix_list (pe_lst (pa_cons (pe_un un_neg pe_int) (pa_cons pe_int (pa_cons pe_int (pa_cons pe_int (pa_cons (pe_call GF hr2 rfl fm fk fb .nil pass0 (pa_cons (pv 0) pa_nil)) pa_nil)))))) (pe_call G hr1 rfl gm gk gb .nil pass0 (pa_cons (pv 0) (pa_cons pe_int pa_nil))) (fun _ _ => rfl)))) pss_nil)
        (C8.pss_cut (ps_if (pt_cmpR op_eq (pv 6) pe_int (nomark _)) (pss_one (ps_set (i := 3) scOD.nd rfl (.inl rfl) (pe_ix ix_list (pe_lst (pa_cons pe_int (pa_cons pe_int (pa_cons pe_int (pa_cons pe_int (pa_cons (pe_op op_sub (pv 2) pe_int) (pa_cons (pv 2) (pa_cons pe_non (pa_cons (pe_call GF hr2 rfl fm fk fb .nil pass0 (pa_cons (pv 0) pa_nil)) pa_nil))))))))) (pe_call G hr1 rfl gm gk gb .nil pass0 (pa_cons (pv 0) (pa_cons pe_int pa_nil))) (fun _ _ => rfl)))) pss_nil)
        (C8.pss_cut (ps_if (pt_cmpR op_eq (pv 6) pe_int (nomark _)) (pss_one (ps_set (i := 4) scOD.nd rfl (.inl rfl) (pe_ix ix_list (pe_lst (pa_cons pe_int (pa_cons pe_int (pa_cons pe_int (pa_cons pe_int (pa_cons pe_non (pa_cons (pe_call GF hr2 rfl fm fk fb .nil pass0 (pa_cons (pv 0) pa_nil)) pa_nil))))))) (pe_call G hr1 rfl gm gk gb .nil pass0 (pa_cons (pv 0) (pa_cons pe_int pa_nil))) (fun _ _ => rfl)))) pss_nil)
        (C8.pss_cut (ps_if (pt_cmpR op_eq (pv 6) pe_int (nomark _)) (pss_one (ps_expr (pe_bm PySem.F.plainAttrs_list PySem.F.slot_list_append PySem.F.type_list_append mt_append (pv 1) (pa_cons (pe_ix ix_list (pe_lst (pa_cons pe_str (pa_cons pe_str (pa_cons pe_str (pa_cons pe_str (pa_cons pe_str (pa_cons pe_str (pa_cons pe_str pa_nil)))))))) (pe_call G hr1 rfl gm gk gb .nil pass0 (pa_cons (pv 0) (pa_cons pe_int pa_nil))) (fun _ _ => rfl)) pa_nil)))) pss_nil)
        (C8.pss_cut (ps_if (pt_cmpR op_eq (pv 6) pe_int (nomark _)) (pss_one (ps_set (i := 1) scOD.nd rfl (.inl rfl) (pe_op op_cat (pv 1) (pe_slice sl_list (pv 1) po_none (po_some pe_int))))) pss_nil)
        (pss_one (ps_if (pt_cmpR op_eq (pv 6) pe_int (nomark _)) (pss_one (ps_set (i := 1) scOD.nd rfl (.inl rfl) (pe_op op_cat (pv 1)
          (pe_lc (own := [("_law_k", 7)]) (g := gName 7) (tt := tYes) rfl scOD.nd (pi_range1 rfl B.rng (pa_cons (pe_call G hr1 rfl gm gk gb .nil pass0 (pa_cons (pv 0) (pa_cons pe_int pa_nil))) pa_nil)) (blkOk_by (N := ["_law_draw", "_law_bars", "_law_least", "_law_upper", "_law_wide", "_law_turn", "_law_way", "_law_k"]) (sc := defScope sOD) (by decide +kernel))
            (fun _ _ _ _ _ => pg_name (i := 7) scOD.nd rfl (Or.inl rfl)) (fun _ _ _ _ _ => pts_nil) (fun _ _ _ _ _ => pe_call GW hr3 rfl wm wk wb .nil pass0 (pa_cons (pv 0) pa_nil)))))) pss_nil)))))))))
      (pss_one (ps_ret (pe_tup (pa_cons (pe_callTy call_tuple_of (by rfl) B.tup (by decide +kernel) (pa_cons (pv 1) pa_nil)) (pa_cons (pv 2) (pa_cons (pv 3) (pa_cons (pv 4) pa_nil))))))))), ?_⟩
    refine ⟨.ref p, rfl, p, q, ns, rfl, hD, fun T t xs lo hi wd H1 h6 hsg _ hpb nT nt hP g1 => ?_⟩
    have hs := hsg.1
    obtain ⟨hT1, ht1⟩ := hP
    refine ⟨T, _, rfl, .inl (.inl hT1), rfl, _, _, rfl, _, _, rfl, _, _, rfl, _, _, rfl, rfl, ?_⟩
    refine ⟨_, rfl, t, _, rfl, .inr (.inl (.inl ht1)), fun l nl => ?_⟩
    have g2 := g1.new (o := .lst (xs.map V.str)) nl
    have lH : H l = none := g1.free nl
    refine ⟨.ref p, rfl, p, q, ns, 3, rfl, by decide, by decide, g2.dr, fun m H3 m0 m1 sx3 hD3 => ?_⟩
    have g3 := g2.next sx3 hD3
    have hl3 : H3 l = some (.lst (xs.map V.str)) := sx3 _ _ upd_same (hD.nn lH)
    obtain ⟨n, rfl⟩ : ∃ n : Nat, m = (n : Int) := ⟨m.toNat, by omega⟩
    refine ⟨(n : Int), rfl, by omega, by omega, for_range (lo := 0) (n := n) (fun i σ H4 => ∃ (l : Addr) (xs : List Str) (lo : Int) (hi wd : Option Int) (y5 y6 : Option V), σ = [some (.ref p), some (.ref l), some (.int lo), some (vI hi), some (vI wd), y5, y6, none] ∧ H4 l = some (.lst (xs.map V.str)) ∧ H l = none ∧ xs.length ≤ 6 + 8 * i ∧ Short xs ∧ Szs lo hi wd ∧ Go p q ns H H4)
      ⟨l, xs, lo, hi, wd, none, none, rfl, hl3, lH, by omega, hs, szs_good hpb, g3⟩ (fun i σ H4 hi4 h => ?_) (fun σ H4 h => ?_)⟩
    · clear hs hsg hT1 ht1 g1 g2 g3 hl3 hD3 sx3 nl h6 nT nt lH
      obtain ⟨l, xs, lo, hi, wd, y5, y6, rfl, hl, lH, hx, hs, zz, g⟩ := h
      have lp : l ≠ p := hD.nn lH
      refine ⟨.ref p, rfl, p, q, ns, 6, rfl, by decide, by decide, g.dr, fun v H5 _ _ sx5 hD5 => ?_⟩
      have g5 := g.next sx5 hD5
      have hl5 : H5 l = some (.lst (xs.map V.str)) := sx5 _ _ hl lp
      refine ⟨OJ p q ns H (6 + 8 * i), ?_, ?_⟩
      · have stay : OJ p q ns H (6 + 8 * i) [some (.ref p), some (.ref l), some (.int lo), some (vI hi), some (vI wd), some (.int (0 + (i : Int))), some (.int v), none] H5 := ⟨l, xs, lo, hi, wd, _, v, rfl, hl5, lH, hx, hs, zz, g5⟩
        refine ⟨_, rfl, rfl, _, rfl, ite2 (fun _ => ?_) (fun _ => stay)⟩
        refine ⟨1, rfl, .ref p, rfl, p, q, ns, rfl, g5.dr, fun z H6 z6 g6 => ⟨by show 5 ≤ sizeLine; decide, fun D nD => ?_⟩⟩
        have g7 := (g5.next g6.sx g6.dr).new (o := .lst [.int (-1), .int 4, .int 3, .int 0, .int z]) nD
        refine ⟨.ref p, rfl, p, q, ns, 5, rfl, by decide, by decide, g7.dr, fun u H8 u0 u1 sx8 hD8 => ?_⟩
        have hDp : D ≠ p := g6.dr.nn nD
        have hm : ∃ m : Int, atI [V.int (-1), V.int 4, V.int 3, V.int 0, V.int z] u = some (.int m) ∧ m.natAbs ≤ big1 := by
          have e5 : u = 0 ∨ u = 1 ∨ u = 2 ∨ u = 3 ∨ u = 4 := by omega
          rcases e5 with rfl | rfl | rfl | rfl | rfl
          · exact ⟨_, rfl, by decide⟩
          · exact ⟨_, rfl, by decide⟩
          · exact ⟨_, rfl, by decide⟩
          · exact ⟨_, rfl, by decide⟩
          · exact ⟨_, rfl, z6⟩
        obtain ⟨m, hm, mz⟩ := hm
        exact ⟨D, _, u, .int m, rfl, rfl, SqL.of (sx8 _ _ upd_same hDp), hm, l, xs, m, hi, wd, _, v, rfl, sx8 _ _ (same_new nD _ _ (g6.sx _ _ hl5 lp)) lp, lH, hx, hs, ⟨mz, zz.b, zz.c⟩, g7.next sx8 hD8⟩
      clear hl5 g5 hl lp sx5 hD5 hs hx lH g
      rintro _ H5 ⟨l, xs, lo, hi, wd, y5, v, rfl, hl5, lH, hx, hs, zz, g5⟩
      have lp : l ≠ p := hD.nn lH
      refine ⟨OJ p q ns H (6 + 8 * i), ?_, ?_⟩
      · have stay : OJ p q ns H (6 + 8 * i) [some (.ref p), some (.ref l), some (.int lo), some (vI hi), some (vI wd), y5, some (.int v), none] H5 := ⟨l, xs, lo, hi, wd, _, v, rfl, hl5, lH, hx, hs, zz, g5⟩
        refine ⟨_, rfl, rfl, _, rfl, ite2 (fun _ => ?_) (fun _ => stay)⟩
        refine ⟨_, rfl, _, _, rfl, rfl, _, rfl, .ref p, rfl, p, q, ns, rfl, g5.dr, fun z H6 z6 g6 => ⟨by show 8 ≤ sizeLine; decide, fun D nD => ?_⟩⟩
        have g7 := (g5.next g6.sx g6.dr).new (o := .lst [.int 0, .int 8, .int 7, .int 1, .int (lo - 1), .int lo, .non, .int z]) nD
        refine ⟨.ref p, rfl, p, q, ns, 8, rfl, by decide, by decide, g7.dr, fun u H8 u0 u1 sx8 hD8 => ?_⟩
        have hDp : D ≠ p := g6.dr.nn nD
        have hm : ∃ m : Option Int, atI [V.int 0, V.int 8, V.int 7, V.int 1, V.int (lo - 1), V.int lo, V.non, V.int z] u = some (vI m) ∧ ∀ h, m = some h → h.natAbs ≤ big2 := by
          have e8 : u = 0 ∨ u = 1 ∨ u = 2 ∨ u = 3 ∨ u = 4 ∨ u = 5 ∨ u = 6 ∨ u = 7 := by omega
          rcases e8 with rfl | rfl | rfl | rfl | rfl | rfl | rfl | rfl
          · exact ⟨some 0, rfl, fun h e => by rw [← Option.some.inj e]; decide⟩
          · exact ⟨some 8, rfl, fun h e => by rw [← Option.some.inj e]; decide⟩
          · exact ⟨some 7, rfl, fun h e => by rw [← Option.some.inj e]; decide⟩
          · exact ⟨some 1, rfl, fun h e => by rw [← Option.some.inj e]; decide⟩
          · exact ⟨some (lo - 1), rfl, fun h e => by rw [← Option.some.inj e]; exact Nat.le_trans (show (lo - 1).natAbs ≤ lo.natAbs + 1 by omega) (Nat.le_trans (Nat.add_le_add_right zz.a 1) (by decide))⟩
          · exact ⟨some lo, rfl, fun h e => by rw [← Option.some.inj e]; exact Nat.le_trans zz.a (by decide)⟩
          · exact ⟨none, rfl, fun h e => nomatch e⟩
          · exact ⟨some z, rfl, fun h e => by rw [← Option.some.inj e]; exact Nat.le_trans z6 (by decide)⟩
        obtain ⟨m, hm, mz⟩ := hm
        exact ⟨D, _, u, vI m, rfl, rfl, SqL.of (sx8 _ _ upd_same hDp), hm, l, xs, lo, m, wd, _, v, rfl, sx8 _ _ (same_new nD _ _ (g6.sx _ _ hl5 lp)) lp, lH, hx, hs, ⟨zz.a, mz, zz.c⟩, g7.next sx8 hD8⟩
      clear hl5 g5 lp hs hx lH
      rintro _ H5 ⟨l, xs, lo, hi, wd, y5, v, rfl, hl5, lH, hx, hs, zz, g5⟩
      have lp : l ≠ p := hD.nn lH
      refine ⟨OJ p q ns H (6 + 8 * i), ?_, ?_⟩
      · have stay : OJ p q ns H (6 + 8 * i) [some (.ref p), some (.ref l), some (.int lo), some (vI hi), some (vI wd), y5, some (.int v), none] H5 := ⟨l, xs, lo, hi, wd, _, v, rfl, hl5, lH, hx, hs, zz, g5⟩
        refine ⟨_, rfl, rfl, _, rfl, ite2 (fun _ => ?_) (fun _ => stay)⟩
        refine ⟨.ref p, rfl, p, q, ns, rfl, g5.dr, fun z H6 z6 g6 => ⟨by show 6 ≤ sizeLine; decide, fun D nD => ?_⟩⟩
        have g7 := (g5.next g6.sx g6.dr).new (o := .lst [.int 0, .int 5, .int 4, .int 1, .non, .int z]) nD
        refine ⟨.ref p, rfl, p, q, ns, 6, rfl, by decide, by decide, g7.dr, fun u H8 u0 u1 sx8 hD8 => ?_⟩
        have hDp : D ≠ p := g6.dr.nn nD
        have hm : ∃ m : Option Int, atI [V.int 0, V.int 5, V.int 4, V.int 1, V.non, V.int z] u = some (vI m) ∧ ∀ h, m = some h → h.natAbs ≤ big2 := by
          have e8 : u = 0 ∨ u = 1 ∨ u = 2 ∨ u = 3 ∨ u = 4 ∨ u = 5 := by omega
          rcases e8 with rfl | rfl | rfl | rfl | rfl | rfl
          · exact ⟨some 0, rfl, fun h e => by rw [← Option.some.inj e]; decide⟩
          · exact ⟨some 5, rfl, fun h e => by rw [← Option.some.inj e]; decide⟩
          · exact ⟨some 4, rfl, fun h e => by rw [← Option.some.inj e]; decide⟩
          · exact ⟨some 1, rfl, fun h e => by rw [← Option.some.inj e]; decide⟩
          · exact ⟨none, rfl, fun h e => nomatch e⟩
          · exact ⟨some z, rfl, fun h e => by rw [← Option.some.inj e]; exact Nat.le_trans z6 (by decide)⟩
        obtain ⟨m, hm, mz⟩ := hm
        exact ⟨D, _, u, vI m, rfl, rfl, SqL.of (sx8 _ _ upd_same hDp), hm, l, xs, lo, hi, m, _, v, rfl, sx8 _ _ (same_new nD _ _ (g6.sx _ _ hl5 lp)) lp, lH, hx, hs, ⟨zz.a, zz.b, mz⟩, g7.next sx8 hD8⟩
      clear hl5 g5 lp hs hx lH
      rintro _ H5 ⟨l, xs, lo, hi, wd, y5, v, rfl, hl5, lH, hx, hs, zz, g5⟩
      have lp : l ≠ p := hD.nn lH
      refine ⟨OJ p q ns H (7 + 8 * i), ?_, ?_⟩
      · have stay : OJ p q ns H (7 + 8 * i) [some (.ref p), some (.ref l), some (.int lo), some (vI hi), some (vI wd), y5, some (.int v), none] H5 := ⟨l, xs, lo, hi, wd, _, v, rfl, hl5, lH, by omega, hs, zz, g5⟩
        refine ⟨_, rfl, rfl, _, rfl, ite2 (fun _ => ?_) (fun _ => stay)⟩
        refine ⟨.ref l, rfl, .inl ⟨rfl, _, SqL.of hl5⟩, by show 7 ≤ sizeLine; decide, fun D nD => ?_⟩
        have g7 := g5.new (o := .lst [.str "", .str "010101", .str "2", .str "0", .str "1", .str "00000", .str "01 "]) nD
        refine ⟨.ref p, rfl, p, q, ns, 7, rfl, by decide, by decide, g7.dr, fun u H8 u0 u1 sx8 hD8 => ?_⟩
        have hDp : D ≠ p := g5.dr.nn nD
        have hm : ∃ m : Str, atI [V.str "", V.str "010101", V.str "2", V.str "0", V.str "1", V.str "00000", V.str "01 "] u = some (.str m) ∧ (tl m).length ≤ 20 ∧ PyData.strOk m = true := by
          have e8 : u = 0 ∨ u = 1 ∨ u = 2 ∨ u = 3 ∨ u = 4 ∨ u = 5 ∨ u = 6 := by omega
          rcases e8 with rfl | rfl | rfl | rfl | rfl | rfl | rfl <;> exact ⟨_, rfl, by decide, by decide +kernel⟩
        obtain ⟨m, hm, hml⟩ := hm
        have hl8 : H8 l = some (.lst (xs.map V.str)) := sx8 _ _ (same_new nD _ _ hl5) lp
        refine ⟨D, _, u, .str m, rfl, rfl, SqL.of (sx8 _ _ upd_same hDp), hm, l, _, _, rfl, rfl, hl8, ?_, ?_⟩
        · rw [List.length_map]
          exact small1000 (by omega)
        · refine ⟨l, xs ++ [m], lo, hi, wd, _, v, rfl, ?_, lH, ?_, ?_, zz, (g7.next sx8 hD8).mut hD lH⟩
          · rw [upd_same, List.map_append]
            rfl
          · rw [List.length_append]
            show xs.length + 1 ≤ _
            omega
          · intro z hz
            rcases List.mem_append.mp hz with h | h
            · exact hs z h
            · rw [List.mem_singleton.mp h]
              exact hml
      clear hl5 g5 lp hs hx lH
      rintro _ H5 ⟨l, xs, lo, hi, wd, y5, v, rfl, hl5, lH, hx, hs, zz, g5⟩
      have lp : l ≠ p := hD.nn lH
      refine ⟨OJ p q ns H (8 + 8 * i), ?_, ?_⟩
      · have stay : OJ p q ns H (8 + 8 * i) [some (.ref p), some (.ref l), some (.int lo), some (vI hi), some (vI wd), y5, some (.int v), none] H5 := ⟨l, xs, lo, hi, wd, _, v, rfl, hl5, lH, by omega, hs, zz, g5⟩
        refine ⟨_, rfl, rfl, _, rfl, ite2 (fun _ => ?_) (fun _ => stay)⟩
        refine ⟨_, rfl, .ref l, rfl, 1, rfl, l, _, rfl, SqL.of hl5, fun t nt => ?_⟩
        have ec : cutV (xs.map V.str) none (some 1) = (xs.take 1).map V.str := by
          unfold cutV
          rw [show HT.sIx (xs.map V.str).length (xs.map V.str).length (some 1) = min 1 (xs.map V.str).length from HT.sIx_nat _ _ 1]
          show List.take (min 1 (xs.map V.str).length - 0) (xs.map V.str) = _
          rw [Nat.sub_zero, List.map_take]
          exact (List.take_eq_take_min).symm
        rw [ec]
        have g6 := g5.new (o := .lst ((xs.take 1).map V.str)) nt
        have tl1 : (xs.take 1).length ≤ 1 := by
          rw [List.length_take]
          omega
        refine ⟨l, t, _, _, rfl, rfl, same_new nt _ _ hl5, upd_same, ?_, fun c nc => ?_⟩
        · rw [List.length_map, List.length_map]
          exact Nat.le_of_lt (small1000 (by omega))
        · refine ⟨c, xs ++ xs.take 1, lo, hi, wd, _, v, rfl, ?_, g6.free nc, ?_, ?_, zz, g6.new nc⟩
          · rw [upd_same, List.map_append]
          · rw [List.length_append]
            omega
          · intro z hz
            rcases List.mem_append.mp hz with h | h
            · exact hs z h
            · exact hs z (List.mem_of_mem_take h)
      clear hl5 g5 lp hs hx lH
      rintro _ H5 ⟨l, xs, lo, hi, wd, y5, v, rfl, hl5, lH, hx, hs, zz, g5⟩
      have lp : l ≠ p := hD.nn lH
      refine ⟨_, rfl, rfl, _, rfl, ite2 (fun _ => ?_) (fun _ => ⟨l, xs, lo, hi, wd, _, _, rfl, hl5, lH, by omega, hs, zz, g5⟩)⟩
      refine ⟨_, rfl, .ref p, rfl, p, q, ns, 7, rfl, by decide, by decide, g5.dr, fun m H6 m0 m1 sx6 hD6 => ?_⟩
      have g6 := g5.next sx6 hD6
      have hl6 : H6 l = some (.lst (xs.map V.str)) := sx6 _ _ hl5 lp
      obtain ⟨n2, rfl⟩ : ∃ n2 : Nat, m = (n2 : Int) := ⟨m.toNat, by omega⟩
      refine ⟨(n2 : Int), rfl, by omega, by omega, fun D nD => ?_⟩
      have DH : H D = none := g6.free nD
      have lD : l ≠ D := ne_of_none hl6 nD
      refine lc_range (lo := 0) (n := n2) (fun j H7 => Go p q ns H H7 ∧ H7 l = some (.lst (xs.map V.str)) ∧ ∃ zs : List Str, H7 D = some (.lst (zs.map V.str)) ∧ zs.length ≤ j ∧ Short zs)
        ⟨g6.new nD, same_new nD _ _ hl6, [], upd_same, Nat.le_refl _, fun x hx => nomatch hx⟩ (fun j H7 hj h => ?_) (fun H7 h => ?_)
      · obtain ⟨g7, hl7, zs, hD7, hzl, hzs⟩ := h
        have Dp : D ≠ p := hD.nn DH
        refine ⟨rfl, .ref p, rfl, p, q, ns, rfl, g7.dr, fun x H8 hx8 hok8 _ sx8 hD8 => ⟨_, sx8 _ _ hD7 Dp, ?_, (g7.next sx8 hD8).mut hD DH, ?_, zs ++ [x], ?_, ?_, ?_⟩⟩
        · rw [List.length_map]
          exact small1000 (by omega)
        · rw [upd_ne lD]
          exact sx8 _ _ hl7 lp
        · rw [upd_same, List.map_append]
          rfl
        · rw [List.length_append]
          show zs.length + 1 ≤ j + 1
          omega
        · intro z hz
          rcases List.mem_append.mp hz with h | h
          · exact hzs z h
          · rw [List.mem_singleton.mp h]
            exact ⟨by omega, hok8⟩
      · obtain ⟨g7, hl7, zs, hD7, hzl, hzs⟩ := h
        refine ⟨l, D, _, _, rfl, rfl, hl7, hD7, ?_, fun c nc => ?_⟩
        · rw [List.length_map, List.length_map]
          exact Nat.le_of_lt (small1000 (by omega))
        · refine ⟨c, xs ++ zs, lo, hi, wd, _, _, rfl, ?_, g7.free nc, ?_, ?_, zz, g7.new nc⟩
          · rw [upd_same, List.map_append]
          · rw [List.length_append]
            omega
          · intro z hz
            rcases List.mem_append.mp hz with h | h
            · exact hs z h
            · exact hzs z h
    · obtain ⟨l, xs, lo, hi, wd, y5, y6, rfl, hl, lH, hx, hs, zz, g⟩ := h
      refine ⟨_, rfl, l, _, rfl, .inl ⟨SqL.of hl, fun t nt => ?_⟩⟩
      have g7 := g.new (o := .tup (xs.map V.str)) nt
      refine ⟨_, rfl, _, rfl, _, rfl, by show 4 ≤ sizeLine; decide, fun T nT => ?_⟩
      have e : t ≠ T := ne_of_none upd_same nT
      refine k T t xs lo hi wd _ (by omega) hs zz (g7.free nT) (g.free nt) ⟨upd_same, ?_⟩ (g7.new nT)
      rw [upd_ne e, upd_same]
end
end K46

set_option Elab.async false
set_option linter.all false
set_option maxRecDepth 100000
set_option maxHeartbeats 4000000
namespace K46
open PySem PySem.Spec PyProof.Rows L2 Pw TL
section
variable {P : Program} {w : World} {K : PySem.W.Frag} {mg : Str → Option Value} {base : Heap}
open LamX
/-! _law_text_told -/
abbrev sTO : Stmt := topS 55
abbrev nTO : List Str := ["_law_ask", "_law_told", "_law_at", "e"]
theorem scTO : FnScope nTO ["_law_ask"] (defScope sTO) := ⟨rfl, rfl, rfl, by decide +kernel, rfl, by decide +kernel, by decide +kernel⟩
structure ClsT (K : PySem.W.Frag) (mg : Str → Option Value) (C : Addr) : Prop where
  m : mg "BadText" = some (.ref C)
  xf : XfC K C
  no : PySem.W.findIn K (.ref C) "row" = some none
  me : PySem.W.exmOne K (.ref C) (.ref C) = some true
/-- at = e.row -/
def tsAt (C : Addr) : Addr → Value → Option Addr → TS := fun a cls d => tAsg (tXf a cls d C "row" (tVar 3)) (gName 2)
theorem told_ok {X : Cx} {C g : Addr} {cdg : Value} {q : Str} (T : ClsT X.K X.mg C) : GivesW X nTO "_law_text_told" (defScope sTO) g cdg (defBody sTO) "_law_ask" q (TTtold X.K [(.ref C, tsAt C)]) := by
  refine told_gives (tn := "_law_told") (wn := "_law_at") (en := "e") scTO rfl rfl rfl (by decide) (by decide) (by decide) (by decide) (fun s H => ?_)
  exact .cons ⟨rfl, by decide, .inl T.m⟩ (fun a oe cls d pn hz hf => pss_one (ps_set (i := 2) scTO.nd rfl (.inl rfl) (pe_xf T.xf T.no hz hf (pv 3)))) .nil
theorem told_gen {C : Addr} {H : Hp} {Q : VK} (me : PySem.W.exmOne K (.ref C) (.ref C) = some true) (Gd : V → Hp → Prop) (Bd : Hp → Prop)
    (hQ1 : ∀ (p : Addr) (G G0 : Hp) (v : V), Gd v G0 → Same G0 G → G p = some (.tup [v, .non]) → G0 p = none → Q (.ref p) G)
    (hQ2 : ∀ (p : Addr) (G G0 : Hp), Bd G0 → Same G0 G → G p = some (.tup [.non, .int 0]) → G0 p = none → Q (.ref p) G)
    {tl' : XK → Hp → VK → Prop} (ht : ∀ (E : XK) (Q' : VK), (∀ v G, Gd v G → Q' v G) → (∀ (d : Addr) (G : Hp), Bd G → G d = some (.xd [("row", .int 0)]) → E (.ref C) (some d) G) → tl' E H Q') :
    TTtold K [(.ref C, tsAt C)] tl' H Q := by
  refine ⟨fun cls dd G => cls = .ref C ∧ ∃ d : Addr, dd = some d ∧ Bd G ∧ G d = some (.xd [("row", .int 0)]), fun v G => Gd v G, ?_, ?_, ?_⟩
  · rintro f cls dd G ⟨rfl, d, rfl, hb, hd⟩
    refine ⟨true, me, fun _ a na => ?_, fun z => nomatch z⟩
    refine ⟨.ref a, rfl, rfl, rfl, d, [("row", .int 0)], .int 0, rfl, hd, rfl, ?_⟩
    refine ⟨.non, rfl, _, rfl, by show 2 ≤ sizeLine; decide, fun p np => ?_⟩
    exact hQ2 p _ G hb (same_new np) upd_same np
  · rintro v G gd p np
    exact hQ1 p _ G v gd (same_new np) upd_same np
  · exact ht _ _ (fun v G gd => gd) (fun d G hb hd => ⟨rfl, d, rfl, hb, hd⟩)
end
end K46

set_option Elab.async false
set_option linter.all false
set_option maxRecDepth 100000
set_option maxHeartbeats 4000000
namespace K46
open PySem PySem.Spec PyProof.Rows L2 Pw TL
section
variable {P : Program} {w : World} {K : PySem.W.Frag} {mg : Str → Option Value} {base : Heap}
open L2H
/-! read_rule -/
abbrev sRE : Stmt := topS 33
abbrev nRE : List Str := ["text", "words", "low", "high", "span"]
theorem scRE : FnScope nRE ["text"] (defScope sRE) := ⟨rfl, rfl, rfl, by decide +kernel, rfl, by decide +kernel, by decide +kernel⟩
def ruleK : List Kd := [.words, .number, .bound, .bound]
def thI : Th → Option Int
  | .num n => some (n : Nat)
  | _ => none
/-- what a rule's text says -/
def ruleF (x : Str) : Option (List Str × Int × Option Int × Option Int) :=
  match readsF ruleK (Txt.split x blank1) with
  | some [.wds ws, .num n, a, b] => if sortW ws = ws ∧ partBad ws (n : Nat) (thI a) (thI b) = none then some (ws, (n : Nat), thI a, thI b) else none
  | _ => none
theorem pure_of {l : List Nat} (h : (strange l).isNone = true) : Pw.Pure l := fun c hc => by
  unfold strange at h
  rw [Option.isNone_iff_eq_none, List.findIdx?_eq_none_iff] at h
  have := h c hc
  unfold bad at this
  by_cases h0 : c = 48
  · exact .inl h0
  · by_cases h1 : c = 49
    · exact .inr h1
    · simp [h0, h1] at this
theorem word_okS {y : Str} (h : wordOk y = true) : PyData.strOk y = true := by
  unfold wordOk at h
  exact pure_ok (pure_of (Bool.and_eq_true _ _ |>.mp h).2)
/-- the parts of four kinds, read -/
theorem reads4 {xs : List Str} {ths : List Th} (h : readsF ruleK xs = some ths) : ∃ ws n a b, ths = [.wds ws, .num n, a, b] ∧ xs.length = 4 ∧ (∀ y ∈ ws, wordOk y = true) ∧ (∀ (H : Hp) (v : V), VTh H v a → v = vI (thI a)) ∧ (∀ (H : Hp) (v : V), VTh H v b → v = vI (thI b)) ∧
    ((∀ x ∈ xs, (tl x).length ≤ 12000) → ws.length ≤ 12002 ∧ ∀ y ∈ ws, (tl y).length ≤ 12000) := by
  match xs, h with
  | [x0, x1, x2, x3], h =>
    unfold ruleK at h
    unfold readsF readsF readsF readsF readsF at h
    have e0 : Kd.words.rd x0 = rdWords x0 := rfl
    have e1 : Kd.number.rd x1 = rdNum x1 := rfl
    have e2 : Kd.bound.rd x2 = rdBound x2 := rfl
    have e3 : Kd.bound.rd x3 = rdBound x3 := rfl
    rw [e0, e1, e2, e3] at h
    have bnd : ∀ (x : Str) (a : Th), rdBound x = some a → ∀ (H : Hp) (v : V), VTh H v a → v = vI (thI a) := fun x a e H v hv => by
      unfold rdBound at e
      split at e
      · obtain rfl := Option.some.inj e
        exact hv
      · unfold rdNum at e
        split at e
        · obtain rfl := Option.some.inj e
          exact hv
        · cases e
    cases h0 : rdWords x0 with
    | none =>
      rw [h0] at h
      cases h
    | some t0 =>
    cases h1 : rdNum x1 with
    | none =>
      rw [h0, h1] at h
      cases h
    | some t1 =>
    cases h2 : rdBound x2 with
    | none =>
      rw [h0, h1, h2] at h
      cases h
    | some t2 =>
    cases h3 : rdBound x3 with
    | none =>
      rw [h0, h1, h2, h3] at h
      cases h
    | some t3 =>
    rw [h0, h1, h2, h3] at h
    obtain rfl := Option.some.inj h
    obtain ⟨n, rfl⟩ : ∃ n, t1 = .num n := by
      unfold rdNum at h1
      split at h1
      · exact ⟨_, (Option.some.inj h1).symm⟩
      · cases h1
    unfold rdWords at h0
    split at h0
    · obtain rfl := Option.some.inj h0
      exact ⟨[], n, t2, t3, rfl, rfl, (fun y hy => nomatch hy), bnd x2 t2 h2, bnd x3 t3 h3, fun _ => ⟨Nat.zero_le _, fun y hy => nomatch hy⟩⟩
    · split at h0
      · rename_i hall
        obtain rfl := Option.some.inj h0
        refine ⟨Txt.split x0 plus, n, t2, t3, rfl, rfl, fun y hy => List.all_eq_true.mp hall y hy, bnd x2 t2 h2, bnd x3 t3 h3, fun hs => ?_⟩
        have hx0 := hs x0 (List.mem_cons_self ..)
        refine ⟨?_, fun y hy => ?_⟩
        · have := split_len' x0
          rw [len_tl] at this
          omega
        · have := split_short hy
          rw [len_tl, len_tl] at this
          omega
      · cases h0
  | [], h => exact absurd (readsF_len h).1 (by simp [ruleK])
  | [_], h => exact absurd (readsF_len h).1 (by simp [ruleK])
  | [_, _], h => exact absurd (readsF_len h).1 (by simp [ruleK])
  | [_, _, _], h => exact absurd (readsF_len h).1 (by simp [ruleK])
  | a :: b :: c :: d :: e :: r, h => exact absurd (readsF_len h).1 (by simp [ruleK])
def spRE (R C : Addr) : Sp := fun vs H Q E => ∃ x : Str, vs = [.str x] ∧ (tl x).length ≤ 12000 ∧
  (∀ ws lo hi sp, ruleF x = some (ws, lo, hi, sp) → ∀ (r pw : Addr) (ys : List Str) H', Same H H' → RuleAt H' R r pw ys lo hi sp → ys.Perm ws → sortedS ys = true → H r = none → Q (.ref r) H') ∧ (ruleF x = none → badOut C H E)
theorem ok_re {f fRT C CR R TF : Addr} {fd fdRT : FuncData} (F : Fun K "read_rule" "read_rule" sRE f fd)
    (GRT : FnOk P w K mg base (L2.CX P w) 5 fRT fdRT ["kinds", "texts"] (spRTE K C)) (rtm : mg "read_things" = some (.ref fRT)) (rtk : PySem.W.keepIn K (.ref fRT) = true) (rtb : Binds K fdRT ["kinds", "texts"] [])
    (mTF : mg "RULE_FORM" = some (.ref TF)) (hTF : ∀ H, SqT K H TF (ruleK.map Kd.v)) (M : RMk P w K mg base R CR) (mCR : mg "BadRule" = some (.ref CR)) (me : PySem.W.exmOne K (.ref CR) (.ref CR) = some true)
    (T : ErrOk P w K mg base "BadText" "row" C okZero) (TH : ErrH P w K mg base "BadText" "row" C okZero) (ml : mg "list" = none) (ms : mg "sorted" = none) :
    FnOk P w K mg base (L2.CX P w) 7 f fd ["text"] (spRE R C) := by
  obtain ⟨fI, fdI, GI, MI, FI⟩ := M.ex
  have mR := M.mgR
  obtain ⟨dsA, vA, bA⟩ := bindsAll FI
  refine F.okX scRE (fun vs H Q E h => ?_) (fun cdv A outer s H vs Q E hr h => ?_)
  · obtain ⟨x, rfl, _⟩ := h
    rfl
  · obtain ⟨x, rfl, hx, q1, q2⟩ := h
    have hr2 : Room 2 _ := hr.mono (by decide)
    refine ⟨_, pss_cons (ps_asg (pe_call (E := E) GRT (hr.mono (by decide)) rfl rtm rtk rtb .nil (passes_call (takes_of rfl rfl rfl rfl) (fun _ _ _ _ z => z)) (pa_cons (pe_glob (v := .ref TF) rfl mTF rfl) (pa_cons (pe_split (pv 0) pe_str) pa_nil)))
        (pg_lst (n := 4) rfl (pgs_cons (pg_name (i := 1) scRE.nd rfl (.inl rfl)) (pgs_cons (pg_name (i := 2) scRE.nd rfl (.inl rfl)) (pgs_cons (pg_name (i := 3) scRE.nd rfl (.inl rfl)) (pgs_cons (pg_name (i := 4) scRE.nd rfl (.inl rfl)) pgs_nil))))))
      (pss_cons (ps_if (pt_cmpR (op_neD hr.units) (pe_callTy call_list_of (by rfl) ml (by decide +kernel) (pa_cons (pv 1) pa_nil)) (pe_callB (cr_sortTW hr.units) (by rfl) ms (by decide +kernel) (pa_cons (pv 1) pa_nil)) (nomark _))
        (pss_one (ps_raise rfl (takes_of rfl rfl rfl rfl) (pmk_err T hr2 rfl pe_int))) pss_nil)
      (pss_one (ps_try_onlyX (x := "BadRule") (c := .ref CR) (Wout := fun cls d _ H => E cls d H) rfl rfl ⟨rfl, by decide, .inl mCR⟩ (fun hd => passesAt_of rfl hd) (takes_of rfl rfl rfl rfl)
        (fun W pn xe tk _ _ => pss_one (ps_ret (pe_make (E := fun cls d H => ∀ σ, W cls d σ H) MI GI hr rfl mR bA vA (L2N.passes_call tk (fun cls d σ H z => z σ)) (pa_cons (pe_callTy (T := "list") (show CallR (Cx.tr _ pn xe) (.type "list") (fun xs H Q => ∃ (p : Addr) (ys : List V), xs = [V.ref p] ∧ (SqL K H p ys ∨ SqT K H p ys) ∧ ∀ l : Addr, H l = none → Q (V.ref l) (upd H l (.lst ys))) from call_list_of) (by rfl) ml (by decide +kernel) (pa_cons (pv 1) pa_nil)) (pa_cons (pv 2) (pa_cons (pv 3) (pa_cons (pv 4) pa_nil)))))))
        (fun a oe cls d pn hz hf tk hot => pss_one (ps_raiseHN hot tk (pmk5_errH TH (roomH_mark hr2 _) hot rfl pe_int)))))), ?_⟩
    have hsh : ∀ y ∈ Txt.split x blank1, (tl y).length ≤ 12000 := fun y hy => by
      rw [← len_tl]
      exact Nat.le_trans (split_short hy) (by rw [len_tl]; exact hx)
    have bad : ruleF x = none → ∀ H1, Same H H1 → badOut C H1 E := fun e H1 s1 => (q2 e).same s1
    refine ⟨_, rfl, ⟨x, rfl⟩, x, blank1, rfl, rfl, rfl, (by rw [len_tl]; exact Nat.le_trans (Nat.add_le_add_right hx 2) (by decide)), fun l nl => ?_⟩
    have s1 : Same H (upd H l (.lst ((Txt.split x blank1).map V.str))) := same_new nl
    refine ⟨TF, l, ruleK, Txt.split x blank1, rfl, hTF _, upd_same, by decide, fun y hy => Nat.le_trans (hsh y hy) (by decide), fun ths er l2 us H2 s2 nl2 hl2 hv => ?_, fun er => bad (by unfold ruleF; rw [er]) _ s1⟩
    obtain ⟨ws, n, a, b, rfl, h4, hw, ha, hb, hz⟩ := reads4 er
    obtain ⟨hwl, hwz⟩ := hz hsh
    cases hv with
    | @cons v0 _ _ _ g0 hv =>
    cases hv with
    | @cons v1 _ _ _ g1 hv =>
    cases hv with
    | @cons v2 _ _ _ g2 hv =>
    cases hv with
    | @cons v3 _ _ _ g3 hv =>
    cases hv
    obtain ⟨t, rfl, ht⟩ := g0
    obtain rfl : v1 = .int (n : Nat) := g1
    obtain rfl := ha _ _ g2
    obtain rfl := hb _ _ g3
    have s12 := s1.trans s2
    refine ⟨l2, _, rfl, SqL.of hl2, rfl, _, _, rfl, _, _, rfl, _, _, rfl, _, _, rfl, rfl, ?_⟩
    refine ⟨_, rfl, t, _, rfl, .inr (SqT.of ht), fun L nL => ?_⟩
    have sL := same_new (o := .lst (ws.map V.str)) nL
    refine ⟨_, rfl, t, ws, rfl, SqT.of (sL _ _ ht), fun M nM => ?_⟩
    have sM := same_new (o := .lst ((sortW ws).map V.str)) nM
    have s4 := s12.trans (sL.trans sM)
    refine ⟨.list (ws.map PyData.str), .list ((sortW ws).map PyData.str), .lst (SqL.of (sM _ _ upd_same)) (words_dp ws), .lst (SqL.of upd_same) (words_dp _), shaped_strs ws fun y hy => word_okS (hw y hy), shaped_strs _ fun y hy => word_okS (hw y ((sortW_perm ws).mem_iff.mp hy)), _, rfl, ?_⟩
    rw [eqv_list]
    by_cases hs : ws = sortW ws
    rotate_left
    · rw [decide_eq_false hs]
      refine iteT (err_read rfl fun d H5 s5 nd e5 => bad ?_ _ s4 d H5 s5 nd e5)
      unfold ruleF
      rw [er]
      exact if_neg fun z => hs z.1.symm
    rw [decide_eq_true hs]
    refine iteF ?_
    refine ⟨_, rfl, t, _, rfl, .inr (SqT.of (sM _ _ (sL _ _ ht))), fun L3 nL3 => ?_⟩
    have s5 := s4.trans (same_new (o := .lst (ws.map V.str)) nL3)
    refine ⟨_, rfl, _, rfl, _, rfl, fun y dx ny nd ne => ?_⟩
    have sI := (same_new (o := .own y) nd).trans (same_new (o := .ins R dx []) (by rw [upd_ne (fun z => ne z.symm)]; exact ny))
    refine ⟨y, dx, .ref L3, ws, (n : Nat), thI a, thI b, rfl, upd_same, .inr ⟨L3, rfl, sI _ _ upd_same⟩, by omega, hwz, fun hpb ys pw H6 hpm hsr npw fr hR => ⟨rfl, ?_⟩, fun s e d H6 s6 nd6 e6 σ => ⟨true, me, fun _ a0 na => err_read rfl fun d2 H7 s7 nd7 e7 => bad ?_ _ (s5.trans (sI.trans s6)) d2 H7 s7 nd7 e7, fun z => nomatch z⟩⟩
    · refine q1 ws (n : Nat) (thI a) (thI b) ?_ y pw ys H6 (s5.trans (made_same ny nd fr)) hR hpm hsr (s5.free ny)
      unfold ruleF
      rw [er]
      exact if_pos ⟨hs.symm, hpb⟩
    · unfold ruleF
      rw [er]
      exact if_neg fun z => by rw [z.2] at e; cases e
end
end K46

set_option Elab.async false
set_option linter.all false
set_option maxRecDepth 100000
set_option maxHeartbeats 4000000
namespace K46
open PySem PySem.Spec PyProof.Rows L2 Pw TL
section
variable {P : Program} {w : World} {K : PySem.W.Frag} {mg : Str → Option Value} {base : Heap}
/-! _law_part_text -/
abbrev sPT : Stmt := topS 50
theorem scPT : FnScope ["_law_part"] ["_law_part"] (defScope sPT) := ⟨rfl, rfl, rfl, by decide +kernel, rfl, by decide +kernel, by decide +kernel⟩
/-- a part: a number or None, or words -/
inductive Pv
  | opt (o : Option Int)
  | wds (ws : List Str)
def VP (H : Hp) (v : V) : Pv → Prop
  | .opt o => v = vI o
  | .wds ws => ∃ t, v = .ref t ∧ H t = some (.tup (ws.map V.str))
def OkP : Pv → Prop
  | .opt o => ∀ i, o = some i → i.natAbs ≤ big2
  | .wds ws => ws.length ≤ 30 ∧ Short ws
theorem VP.same {H H' : Hp} {v : V} {pt : Pv} (h : VP H v pt) (s : Same H H') : VP H' v pt := by
  cases pt with
  | opt o => exact h
  | wds ws =>
    obtain ⟨t, e, ht⟩ := h
    exact ⟨t, e, s _ _ ht⟩
theorem big_lg {i : Int} (h : i.natAbs ≤ big2) : i.natAbs.log2 < 1920 := by
  by_cases e : i.natAbs = 0
  · rw [e]
    decide
  · exact (Nat.log2_lt e).mpr (Nat.lt_of_le_of_lt h (Nat.lt_of_lt_of_le (by decide : big2 < 2 ^ 100) (Nat.pow_le_pow_right (by decide) (by decide))))
theorem big_txt {i : Int} (h : i.natAbs ≤ big2) : (Str.ofString (toString i)).length ≤ 40 := by
  have h1 : (toString i).length ≤ 29 + 1 := int_text_length_le10 (k := 29) (by decide) (Nat.lt_of_le_of_lt h (by decide))
  have h2 : (Str.ofString (toString i)).length = (toString i).length := PySem.ofString_length _
  omega
theorem shaped_tup (ns : List Str) (hs : ∀ x ∈ ns, PyData.strOk x = true) : SeqAt.shaped (.tuple (ns.map PyData.str)) = true := by
  have c : ∀ (ns : List Str), (∀ x ∈ ns, PyData.strOk x = true) → PyData.canLayAll0 (ns.map PyData.str) = true ∧ PyData.depthAll (ns.map PyData.str) ≤ 1 := by
    intro ns
    induction ns with
    | nil => intro _; simp [PyData.canLayAll0, PyData.depthAll]
    | cons a r ih =>
      intro hs
      have h5 := hs a (List.mem_cons_self ..)
      have h6 := ih fun x hx => hs x (List.mem_cons_of_mem _ hx)
      simp [PyData.canLayAll0, PyData.canLay0, PyData.depthAll, PyData.depth] at *
      exact ⟨⟨h5, h6.1⟩, by omega⟩
  obtain ⟨c1, c2⟩ := c ns hs
  show (PyData.canLay0 (.tuple (ns.map PyData.str)) && decide (PyData.depth (.tuple (ns.map PyData.str)) ≤ 64)) = true
  rw [Bool.and_eq_true]
  refine ⟨?_, decide_eq_true ?_⟩
  · simp [PyData.canLay0, c1]
  · simp only [PyData.depth]
    omega
def spPT : Sp := fun vs H Q _ => ∃ (v : V) (pt : Pv), vs = [v] ∧ OkP pt ∧ VP H v pt ∧ ∀ (z : Str) H', z.length ≤ 700 → Same H H' → Q (.str z) H'
theorem ok_pt {f : Addr} {fd : FuncData} {k : Nat} (F : Fun K "_law_part_text" "_law_part_text" sPT f fd) (B : BN mg) : FnOk P w K mg base CX0 (k + 1) f fd ["_law_part"] spPT := by
  refine F.ok scPT (fun vs H Q E h => ?_) (fun cdv A outer s H vs Q E hr h => ?_)
  · obtain ⟨v, th, rfl, _⟩ := h
    rfl
  · obtain ⟨v, th, rfl, ho, hv, q⟩ := h
    refine ⟨_, pss_cons (ps_if (PW.pt (pw_or (pt_cmpR op_isN (pv 0) pe_non (nomark _)) (pw_or (pt_cmpR (op_eqD hr.units) (pv 0) pe_str (nomark _)) (pw_or1 (pt_cmpR (op_eqD hr.units) (pv 0) (pe_tup pa_nil) (nomark _)))))) (pss_one (ps_ret pe_str)) pss_nil)
      (pss_one (ps_ret (pe_ifExp (pt_val (pe_callB call_isi (by rfl) B.isi (by decide +kernel) (pa_cons (pv 0) (pa_cons (pe_bltn (v := .ty "tuple") (by rfl) B.tup (by decide +kernel) rfl) pa_nil)))) (pe_join pe_str (pv 0)) (pe_callTy call_str_int (by rfl) B.str (by decide +kernel) (pa_cons (pv 0) pa_nil))))), ?_⟩
    have dE : ∀ {H : Hp}, Dp K H (.str (Str.ofString "")) (.str (Str.ofString "")) := .str _
    have sE : SeqAt.shaped (.str (Str.ofString "")) = true := by decide +kernel
    have sU : SeqAt.shaped (.tuple []) = true := by decide +kernel
    cases th with
    | opt o =>
      obtain rfl : v = vI o := hv
      cases o with
      | none => exact ⟨_, rfl, rfl, _, rfl, iteT (iteT (q _ H (by decide) (Same.refl H)))⟩
      | some i =>
        have hi : i.natAbs ≤ big2 := ho i rfl
        have sh : SeqAt.shaped (.int i) = true := rfl
        refine ⟨_, rfl, rfl, _, rfl, iteF ⟨_, rfl, _, _, .int _, dE, sh, sE, _, rfl, iteF ⟨_, rfl, by show 0 ≤ sizeLine; decide, fun U nU => ⟨_, .tuple [], .int _, .tup (SqT.of upd_same) .nil, sh, sU, _, rfl, iteF ?_⟩⟩⟩⟩
        exact ⟨_, rfl, .int i, .ty "tuple", .type "int", .type "tuple", false, rfl, .ty _, .base (.int _), kit_ty (by decide +kernel), _, rfl, iteF ⟨_, rfl, i, rfl, big_lg hi, q _ _ (Nat.le_trans (big_txt hi) (by decide)) (same_new nU)⟩⟩
    | wds ws =>
      obtain ⟨t, rfl, ht⟩ := hv
      have sh := shaped_tup ws fun x hx => (ho.2 x hx).2
      have hd : Dp K H (.ref t) (.tuple (ws.map PyData.str)) := .tup (SqT.of ht) (words_dp ws)
      refine ⟨_, rfl, rfl, _, rfl, iteF ⟨_, rfl, _, _, hd, dE, sh, sE, _, rfl, iteF ⟨_, rfl, by show 0 ≤ sizeLine; decide, fun U nU => ?_⟩⟩⟩
      have sU1 : Same H (upd H U (.tup [])) := same_new nU
      have hd2 : Dp K (upd H U (.tup [])) (.ref t) (.tuple (ws.map PyData.str)) := .tup (SqT.of (sU1 _ _ ht)) (words_dp ws)
      refine ⟨_, .tuple [], hd2, .tup (SqT.of upd_same) .nil, sh, sU, _, rfl, ?_⟩
      have eU : PyData.eqv (.tuple (ws.map PyData.str)) (.tuple []) = decide (ws = []) := by
        cases ws with
        | nil => rfl
        | cons a r => rfl
      rw [eU]
      by_cases h0 : ws = []
      · rw [decide_eq_true h0]
        exact iteT (q _ _ (by decide) sU1)
      · rw [decide_eq_false h0]
        have h1 := sum20 (ws := ws) fun x hx => (ho.2 x hx).1
        have h2 : (Str.ofString "+").length = 1 := rfl
        have h3 := ho.1
        have h4 := join_len (Str.ofString "+") ws
        rw [h2] at h4
        refine iteF ⟨_, rfl, .ref t, .ty "tuple", .type "tuple", .type "tuple", true, rfl, .ty _, ty_tup (SqT.of (sU1 _ _ ht)), kit_ty (by decide +kernel), _, rfl, iteT ⟨⟨_, rfl⟩, _, rfl, _, t, ws, rfl, rfl, .inr (SqT.of (sU1 _ _ ht)), ?_, q _ _ ?_ sU1⟩⟩
        · rw [h2]
          omega
        · omega
/-! _law_text_of -/
abbrev sTX : Stmt := topS 56
abbrev nTX : List Str := ["_law_r", "_law_part"]
theorem scTX : FnScope nTX ["_law_r"] (defScope sTX) := ⟨rfl, rfl, rfl, by decide +kernel, rfl, by decide +kernel, by decide +kernel⟩
def spTX : Sp := fun vs H Q _ => ∃ (T t : Addr) (xs : List Str) (lo : Int) (hi wd : Option Int), vs = [.ref T] ∧ Parts H T t xs lo hi wd ∧ xs.length ≤ 30 ∧ Short xs ∧ Szs lo hi wd ∧ ∀ (z : Str) H', z.length ≤ 2804 → Same H H' → Q (.str z) H'
theorem sum700 : ∀ {zs : List Str}, (∀ z ∈ zs, z.length ≤ 700) → (zs.map (·.length)).sum ≤ zs.length * 700
  | [], _ => Nat.zero_le _
  | a :: r, h => by
    have h1 := sum700 fun z hz => h z (List.mem_cons_of_mem _ hz)
    have h2 := h a (List.mem_cons_self ..)
    rw [List.map_cons, List.sum_cons, List.length_cons]
    omega
theorem ok_tx {f fT : Addr} {fd fdT : FuncData} (F : Fun K "_law_text_of" "_law_text_of" sTX f fd) (GT : FnOk P w K mg base CX0 1 fT fdT ["_law_part"] spPT) (tm : mg "_law_part_text" = some (.ref fT)) (tk : PySem.W.keepIn K (.ref fT) = true) (tb : Binds K fdT ["_law_part"] []) :
    FnOk P w K mg base CX0 2 f fd ["_law_r"] spTX := by
  refine F.ok scTX (fun vs H Q E h => ?_) (fun cdv A outer s H vs Q E hr h => ?_)
  · obtain ⟨T, t, xs, lo, hi, wd, rfl, _⟩ := h
    rfl
  · obtain ⟨T, t, xs, lo, hi, wd, rfl, ⟨hT, ht⟩, h30, hs, hz, q⟩ := h
    refine ⟨_, pss_one (ps_ret (pe_join pe_str (pe_lc (own := [("_law_part", 1)]) (g := gName 1) (tt := tYes) rfl scTX.nd (pi_tup (pv 0)) (blkOk_by (N := nTX) (sc := defScope sTX) (by decide +kernel)) (fun _ _ _ _ _ => pg_name (i := 1) scTX.nd rfl (Or.inl rfl)) (fun _ _ _ _ _ => pts_nil)
      (fun _ _ _ _ _ => pe_call GT hr rfl tm tk tb .nil pass0 (pa_cons (pv 1) pa_nil))))), ?_⟩
    have hps : ∀ (v : V), v ∈ [V.ref t, .int lo, vI hi, vI wd] → ∃ pt, OkP pt ∧ VP H v pt := fun v hv => by
      simp only [List.mem_cons, List.not_mem_nil, or_false] at hv
      rcases hv with rfl | rfl | rfl | rfl
      · exact ⟨.wds xs, ⟨h30, hs⟩, t, rfl, ht⟩
      · exact ⟨.opt (some lo), (fun i e => by rw [← Option.some.inj e]; exact Nat.le_trans hz.a (by decide)), rfl⟩
      · exact ⟨.opt hi, hz.b, rfl⟩
      · exact ⟨.opt wd, hz.c, rfl⟩
    refine ⟨⟨_, rfl⟩, _, rfl, T, rfl, ⟨_, SqT.of hT⟩, fun D nD => ?_⟩
    refine lc_tup (K := K) (a := T) (xs := [V.ref t, .int lo, vI hi, vI wd]) (fun i G => Same H G ∧ ∃ zs : List Str, G D = some (.lst (zs.map V.str)) ∧ zs.length ≤ i ∧ ∀ z ∈ zs, z.length ≤ 700)
      ⟨same_new nD, [], upd_same, Nat.le_refl _, fun z hz => nomatch hz⟩ (fun i G _ h => SqT.of (h.1 _ _ hT)) (fun i v G hv h => ?_) (fun G h => ?_)
    · obtain ⟨sG, zs, hD, hl, h7⟩ := h
      have hi4 : i < 4 := (List.getElem?_eq_some_iff.mp hv).1
      obtain ⟨pt, ho, hp⟩ := hps v (List.mem_of_getElem? hv)
      refine ⟨rfl, _, rfl, v, pt, rfl, ho, hp.same sG, fun z G2 hz2 s2 => ⟨_, s2 _ _ hD, ?_, same_put (sG.trans s2) nD, zs ++ [z], ?_, ?_, fun y hy => ?_⟩⟩
      · rw [List.length_map]
        exact Nat.lt_of_le_of_lt (show zs.length ≤ 4 by omega) (by decide)
      · rw [upd_same, List.map_append]
        rfl
      · rw [List.length_append]
        show zs.length + 1 ≤ i + 1
        omega
      · rcases List.mem_append.mp hy with hy | hy
        · exact h7 y hy
        · rw [List.mem_singleton.mp hy]
          exact hz2
    obtain ⟨sG, zs, hD, hl, h7⟩ := h
    have hl4 : zs.length ≤ 4 := hl
    have h1 := sum700 h7
    have h2 : (Str.ofString " ").length = 1 := rfl
    have h4 := join_len (Str.ofString " ") zs
    rw [h2] at h4
    refine ⟨_, D, zs, rfl, rfl, .inl (SqL.of hD), ?_, q _ G ?_ sG⟩
    · rw [h2]
      omega
    · omega
end
end K46

set_option Elab.async false
set_option linter.all false
set_option maxRecDepth 100000
set_option maxHeartbeats 4000000
namespace K46
open PySem PySem.Spec PyProof.Rows L2 Pw TL
section
variable {P : Program} {w : World} {K : PySem.W.Frag} {mg : Str → Option Value} {base : Heap}
/-- what a deed's thing is, by its kind -/
def Fits : Kd → Th → Prop
  | .name, .txt x => tl x ≠ [] ∧ 10 ∉ tl x ∧ 32 ∉ tl x ∧ (tl x).length ≤ 20 ∧ PyData.strOk x = true
  | .word, .txt x => Pw.Pure (tl x) ∧ tl x ≠ [] ∧ (tl x).length ≤ 20
  | .row, .txt x => Pw.Pure (tl x) ∧ (tl x).length ≤ 20
  | .words, .wds ws => ws.length ≤ 6 ∧ ∀ x ∈ ws, Pw.Pure (tl x) ∧ tl x ≠ [] ∧ (tl x).length ≤ 20
  | .number, .num n => n < 1000000
  | .bound, .num n => n < 1000000
  | .bound, .non => True
  | _, _ => False
/-- a thing as it is written -/
def partT : Th → Str
  | .non => dash
  | .num n => Str.ofString (toString ((n : Nat) : Int))
  | .txt x => if tl x = [] then dash else x
  | .wds ws => if ws = [] then dash else Txt.join plus ws
theorem tl_dash : tl dash = [45] := rfl
theorem plus_is : plus = ⟨#[43]⟩ := rfl
theorem blank_is : blank1 = ⟨#[32]⟩ := rfl
theorem joinL_len (c k : Nat) : ∀ (ps : List (List Nat)), (∀ p ∈ ps, p.length ≤ k) → (Pw.joinL c ps).length ≤ ps.length * (k + 1)
  | [], _ => Nat.zero_le _
  | [a], h => by
    have := h a (List.mem_cons_self ..)
    show a.length ≤ 1 * (k + 1)
    omega
  | a :: b :: r, h => by
    have h1 := h a (List.mem_cons_self ..)
    have h2 := joinL_len c k (b :: r) (fun p hp => h p (List.mem_cons_of_mem _ hp))
    show (a ++ c :: Pw.joinL c (b :: r)).length ≤ ((b :: r).length + 1) * (k + 1)
    rw [List.length_append, List.length_cons, Nat.add_mul]
    omega
theorem joinL_mem (c : Nat) : ∀ (ps : List (List Nat)) (d : Nat), d ∈ Pw.joinL c ps → d = c ∨ ∃ p ∈ ps, d ∈ p
  | [], d, h => nomatch h
  | [a], d, h => .inr ⟨a, List.mem_cons_self .., h⟩
  | a :: b :: r, d, h => by
    have h : d ∈ a ++ c :: Pw.joinL c (b :: r) := h
    rcases List.mem_append.mp h with z | z
    · exact .inr ⟨a, List.mem_cons_self .., z⟩
    rcases List.mem_cons.mp z with z | z
    · exact .inl z
    rcases joinL_mem c (b :: r) d z with z | ⟨p, hp, hd⟩
    · exact .inl z
    · exact .inr ⟨p, List.mem_cons_of_mem _ hp, hd⟩
theorem joinL_head (c : Nat) (a : List Nat) (r : List (List Nat)) (d : Nat) (q : List Nat) (h : a = d :: q) : ∃ q', Pw.joinL c (a :: r) = d :: q' := by
  subst h
  cases r with
  | nil => exact ⟨q, rfl⟩
  | cons b r => exact ⟨q ++ c :: Pw.joinL c (b :: r), rfl⟩
theorem word_is {x : Str} (h : Pw.Pure (tl x)) (h0 : tl x ≠ []) : wordOk x = true := by
  unfold wordOk
  rw [strange_none h, show decide (tl x ≠ []) = true from decide_eq_true h0]
  rfl
theorem pure_dash {x : Str} (h : Pw.Pure (tl x)) : x ≠ dash := fun e => by
  rw [e] at h
  have := h 45 (by rw [tl_dash]; exact List.mem_cons_self ..)
  omega
theorem words_dash {ws : List Str} (h0 : ws ≠ []) (h : ∀ x ∈ ws, Pw.Pure (tl x) ∧ tl x ≠ []) : Txt.join plus ws ≠ dash := fun e => by
  cases ws with
  | nil => exact h0 rfl
  | cons a r =>
    obtain ⟨h1, h2⟩ := h a (List.mem_cons_self ..)
    cases ea : tl a with
    | nil => exact h2 ea
    | cons d q =>
      have e2 := congrArg tl e
      rw [plus_is, Pw.tl_join, List.map_cons, ea] at e2
      obtain ⟨q', e3⟩ := joinL_head 43 (d :: q) (r.map tl) d q rfl
      rw [e3, tl_dash] at e2
      have hd := h1 d (by rw [ea]; exact List.mem_cons_self ..)
      have := (List.cons.inj e2).1
      omega
theorem num_is {n : Nat} (h : n < 1000000) : rdNum (Str.ofString (toString ((n : Nat) : Int))) = some (.num n) := by
  have hl := digL_len 5 n (by omega)
  have h1 : 1 ≤ (digL n).length := by
    cases e : digL n with
    | nil => exact absurd e (digL_ne n)
    | cons c r => exact Nat.succ_le_succ (Nat.zero_le _)
  have hf : (digL n).all isFig = true := List.all_eq_true.mpr fun c hc => decide_eq_true (digL_all n c hc)
  have hh : (decide ((digL n).head? = some 48) && decide (digL n ≠ [48])) = false := by
    by_cases h0 : n = 0
    · subst h0
      decide
    · obtain ⟨c, r, e, hc⟩ := digL_head n h0
      rw [e, show decide ((c :: r).head? = some 48) = false from decide_eq_false (fun z => hc (Option.some.inj z)), Bool.false_and]
  unfold rdNum numB
  rw [Pw.tl_num, decide_eq_true ⟨h1, hl⟩, hf, hh]
  have e : PySem.NumText.digitsVal (digL n) = n := PySem.W.KIN.val_back n
  rw [e]
  rfl
theorem num_dash (n : Nat) : Str.ofString (toString ((n : Nat) : Int)) ≠ dash := fun e => by
  have e2 := congrArg tl e
  rw [Pw.tl_num, tl_dash] at e2
  have := digL_all n 45 (by rw [e2]; exact List.mem_cons_self ..)
  omega
/-- what is written is read -/
theorem fits_read {k : Kd} {th : Th} (h : Fits k th) : k.rd (partT th) = some th := by
  cases k with
  | name =>
    cases th with
    | txt x =>
      obtain ⟨h1, h2, _⟩ := h
      show rdName (if tl x = [] then dash else x) = _
      rw [if_neg h1]
      unfold rdName
      rw [if_neg (fun z => z.elim h1 h2)]
    | non => exact h.elim
    | num n => exact h.elim
    | wds ws => exact h.elim
  | word =>
    cases th with
    | txt x =>
      obtain ⟨h1, h2, _⟩ := h
      show rdWord (if tl x = [] then dash else x) = _
      rw [if_neg h2, rdWord_is, if_pos (word_is h1 h2)]
    | non => exact h.elim
    | num n => exact h.elim
    | wds ws => exact h.elim
  | row =>
    cases th with
    | txt x =>
      obtain ⟨h1, _⟩ := h
      show rdRow (if tl x = [] then dash else x) = _
      by_cases h0 : tl x = []
      · rw [if_pos h0]
        unfold rdRow
        rw [if_pos rfl, str_tl (show tl x = tl (Str.ofString "") from h0)]
      · rw [if_neg h0]
        unfold rdRow
        rw [if_neg (pure_dash h1), rdWord_is, if_pos (word_is h1 h0)]
    | non => exact h.elim
    | num n => exact h.elim
    | wds ws => exact h.elim
  | words =>
    cases th with
    | wds ws =>
      obtain ⟨_, h1⟩ := h
      show rdWords (if ws = [] then dash else Txt.join plus ws) = _
      by_cases h0 : ws = []
      · rw [if_pos h0, h0]
        unfold rdWords
        rw [if_pos rfl]
      · rw [if_neg h0]
        unfold rdWords
        have e : Txt.split (Txt.join plus ws) plus = ws := split_join (by decide) h0 (fun x hx z => by
          have := (h1 x hx).1 43 z
          omega)
        rw [if_neg (words_dash h0 fun x hx => ⟨(h1 x hx).1, (h1 x hx).2.1⟩), e, if_pos (List.all_eq_true.mpr fun x hx => word_is (h1 x hx).1 (h1 x hx).2.1)]
    | non => exact h.elim
    | num n => exact h.elim
    | txt x => exact h.elim
  | number =>
    cases th with
    | num n => exact num_is h
    | non => exact h.elim
    | wds ws => exact h.elim
    | txt x => exact h.elim
  | bound =>
    cases th with
    | num n =>
      show (if Str.ofString (toString ((n : Nat) : Int)) = dash then some .non else rdNum (Str.ofString (toString ((n : Nat) : Int)))) = _
      rw [if_neg (num_dash n)]
      exact num_is h
    | non =>
      show rdBound dash = _
      unfold rdBound
      rw [if_pos rfl]
    | wds ws => exact h.elim
    | txt x => exact h.elim
/-- no blank in it, and not too long -/
theorem fits_free {k : Kd} {th : Th} (h : Fits k th) : 32 ∉ tl (partT th) ∧ (tl (partT th)).length ≤ 200 := by
  have hp : ∀ x : Str, Pw.Pure (tl x) → 32 ∉ tl x := fun x h z => by
    have := h 32 z
    omega
  have hd : 32 ∉ tl dash ∧ (tl dash).length ≤ 200 := by
    rw [tl_dash]
    decide
  have ht : ∀ x : Str, 32 ∉ tl x → (tl x).length ≤ 20 → 32 ∉ tl (partT (.txt x)) ∧ (tl (partT (.txt x))).length ≤ 200 := fun x h1 h2 => by
    show 32 ∉ tl (if tl x = [] then dash else x) ∧ (tl (if tl x = [] then dash else x)).length ≤ 200
    by_cases h0 : tl x = []
    · rw [if_pos h0]
      exact hd
    · rw [if_neg h0]
      exact ⟨h1, by omega⟩
  have hn : ∀ n : Nat, n < 1000000 → 32 ∉ tl (partT (.num n)) ∧ (tl (partT (.num n))).length ≤ 200 := fun n h => by
    show 32 ∉ tl (Str.ofString (toString ((n : Nat) : Int))) ∧ (tl (Str.ofString (toString ((n : Nat) : Int)))).length ≤ 200
    rw [Pw.tl_num]
    have := digL_len 5 n (by omega)
    exact ⟨fun z => by have := digL_all n 32 z; omega, by omega⟩
  cases k with
  | name =>
    cases th with
    | txt x => exact ht x h.2.2.1 h.2.2.2.1
    | non => exact h.elim
    | num n => exact h.elim
    | wds ws => exact h.elim
  | word =>
    cases th with
    | txt x => exact ht x (hp x h.1) h.2.2
    | non => exact h.elim
    | num n => exact h.elim
    | wds ws => exact h.elim
  | row =>
    cases th with
    | txt x => exact ht x (hp x h.1) h.2
    | non => exact h.elim
    | num n => exact h.elim
    | wds ws => exact h.elim
  | words =>
    cases th with
    | wds ws =>
      obtain ⟨h5, h1⟩ := h
      show 32 ∉ tl (if ws = [] then dash else Txt.join plus ws) ∧ (tl (if ws = [] then dash else Txt.join plus ws)).length ≤ 200
      by_cases h0 : ws = []
      · rw [if_pos h0]
        exact hd
      · rw [if_neg h0, plus_is, Pw.tl_join]
        refine ⟨fun z => ?_, ?_⟩
        · rcases joinL_mem 43 _ _ z with z | ⟨p, hp1, hp2⟩
          · omega
          · obtain ⟨x, hx, rfl⟩ := List.mem_map.mp hp1
            exact hp x (h1 x hx).1 hp2
        · have := joinL_len 43 20 (ws.map tl) (fun p hp1 => by
            obtain ⟨x, hx, rfl⟩ := List.mem_map.mp hp1
            exact (h1 x hx).2.2)
          rw [List.length_map] at this
          omega
    | non => exact h.elim
    | num n => exact h.elim
    | txt x => exact h.elim
  | number =>
    cases th with
    | num n => exact hn n h
    | non => exact h.elim
    | wds ws => exact h.elim
    | txt x => exact h.elim
  | bound =>
    cases th with
    | num n => exact hn n h
    | non => exact hd
    | wds ws => exact h.elim
    | txt x => exact h.elim
end
section
variable {P : Program} {w : World} {K : PySem.W.Frag} {mg : Str → Option Value} {base : Heap}
def oTh : Option Int → Th
  | none => .non
  | some i => .num i.toNat
theorem numT_part {o : Option Int} (h : SmallO o) : numT o = partT (oTh o) := by
  cases o with
  | none => rfl
  | some i =>
    obtain ⟨h0, _⟩ := h i rfl
    show Str.ofString (toString i) = Str.ofString (toString ((i.toNat : Nat) : Int))
    rw [Int.toNat_of_nonneg h0]
theorem wT_part (xs : List Str) : wT xs = partT (.wds xs) := by
  cases xs with
  | nil => rfl
  | cons a r => rfl
theorem fits_oB {o : Option Int} (h : SmallO o) : Fits .bound (oTh o) := by
  cases o with
  | none => exact True.intro
  | some i =>
    obtain ⟨_, h9⟩ := h i rfl
    show i.toNat < 1000000
    omega
theorem thI_oTh {o : Option Int} (h : SmallO o) : thI (oTh o) = o := by
  cases o with
  | none => rfl
  | some i =>
    obtain ⟨h0, _⟩ := h i rfl
    show some ((i.toNat : Nat) : Int) = some i
    rw [Int.toNat_of_nonneg h0]
theorem drawn_fits {xs : List Str} (h6 : xs.length ≤ 6) (hg : ShortG xs) : Fits .words (.wds xs) := by
  refine ⟨h6, fun x hx => ?_⟩
  have hw := hg.2.2 x hx
  unfold wordB at hw
  rw [Bool.and_eq_true] at hw
  have hl := of_decide_eq_true hw.1
  refine ⟨pure_of hw.2, fun e => ?_, by omega⟩
  rw [e] at hl
  exact absurd hl.1 (by decide)
theorem sortW_one {xs : List Str} (h : sortedS xs = true) : sortW xs = xs :=
  List.Perm.eq_of_pairwise (le := fun a b => a.cps.toList ≤ b.cps.toList) (fun x y _ _ h1 h2 => str_eq (List.le_antisymm h1 h2)) (sortW_ord xs) (sortedS_pw h) (sortW_perm xs)
theorem small_parts {xs : List Str} {lo : Int} {hi wd : Option Int} (h : partBad xs lo hi wd = none) : Small lo ∧ SmallO hi ∧ SmallO wd := by
  obtain ⟨l0, l3, hh, hw⟩ := parts_inv h
  refine ⟨⟨l0, by omega⟩, fun g e => ?_, fun g e => ?_⟩
  · have := hh g e
    exact ⟨by omega, by omega⟩
  · have := hw g e
    exact ⟨by omega, by omega⟩
theorem rule_parts {xs : List Str} {lo : Int} {hi wd : Option Int} (h : partBad xs lo hi wd = none) : ruleT xs lo hi wd = Txt.join blank1 [partT (.wds xs), partT (oTh (some lo)), partT (oTh hi), partT (oTh wd)] := by
  obtain ⟨h1, h2, h3⟩ := small_parts h
  unfold ruleT
  rw [wT_part, numT_part (o := some lo) (fun i e => by rw [← Option.some.inj e]; exact h1), numT_part h2, numT_part h3]
  rfl
theorem rule_free {xs : List Str} {lo : Int} {hi wd : Option Int} (h6 : xs.length ≤ 6) (hg : ShortG xs) (h : partBad xs lo hi wd = none) : ∀ y ∈ [partT (.wds xs), partT (oTh (some lo)), partT (oTh hi), partT (oTh wd)], 32 ∉ tl y ∧ (tl y).length ≤ 200 := by
  obtain ⟨h1, h2, h3⟩ := small_parts h
  intro y hy
  simp only [List.mem_cons, List.not_mem_nil, or_false] at hy
  rcases hy with rfl | rfl | rfl | rfl
  · exact fits_free (drawn_fits h6 hg)
  · exact fits_free (fits_oB (o := some lo) fun i e => by rw [← Option.some.inj e]; exact h1)
  · exact fits_free (fits_oB h2)
  · exact fits_free (fits_oB h3)
theorem rule_len {xs : List Str} {lo : Int} {hi wd : Option Int} (h6 : xs.length ≤ 6) (hg : ShortG xs) (h : partBad xs lo hi wd = none) : (ruleT xs lo hi wd).length ≤ 900 := by
  rw [rule_parts h, len_tl, blank_is, Pw.tl_join]
  have h1 := joinL_len 32 200 ([partT (.wds xs), partT (oTh (some lo)), partT (oTh hi), partT (oTh wd)].map tl) (fun p hp => by
    obtain ⟨y, hy, rfl⟩ := List.mem_map.mp hp
    exact (rule_free h6 hg h y hy).2)
  rw [List.length_map] at h1
  exact Nat.le_trans h1 (by show 4 * 201 ≤ 900; decide)
/-- what is written of a drawn rule is read -/
theorem rule_back {xs : List Str} {lo : Int} {hi wd : Option Int} (h6 : xs.length ≤ 6) (hg : ShortG xs) (hs : sortedS xs = true) (h : partBad xs lo hi wd = none) : ruleF (ruleT xs lo hi wd) = some (xs, lo, hi, wd) := by
  obtain ⟨h1, h2, h3⟩ := small_parts h
  have f1 : Kd.words.rd (partT (.wds xs)) = some (.wds xs) := fits_read (drawn_fits h6 hg)
  have f2 : Kd.number.rd (partT (oTh (some lo))) = some (oTh (some lo)) := fits_read (show lo.toNat < 1000000 from by have := h1.2; omega)
  have f3 : Kd.bound.rd (partT (oTh hi)) = some (oTh hi) := fits_read (fits_oB h2)
  have f4 : Kd.bound.rd (partT (oTh wd)) = some (oTh wd) := fits_read (fits_oB h3)
  have e : Txt.split (ruleT xs lo hi wd) blank1 = [partT (.wds xs), partT (oTh (some lo)), partT (oTh hi), partT (oTh wd)] := by
    rw [rule_parts h]
    exact split_join (by decide) (List.cons_ne_nil _ _) (fun y hy => (rule_free h6 hg h y hy).1)
  have er : readsF ruleK [partT (.wds xs), partT (oTh (some lo)), partT (oTh hi), partT (oTh wd)] = some [.wds xs, oTh (some lo), oTh hi, oTh wd] := by
    simp only [readsF, ruleK, f1, f2, f3, f4]
  unfold ruleF
  rw [e, er]
  show (if sortW xs = xs ∧ partBad xs ((lo.toNat : Nat) : Int) (thI (oTh hi)) (thI (oTh wd)) = none then some (xs, ((lo.toNat : Nat) : Int), thI (oTh hi), thI (oTh wd)) else none) = _
  rw [thI_oTh h2, thI_oTh h3, Int.toNat_of_nonneg h1.1, if_pos ⟨sortW_one hs, h⟩]
theorem readsL_nn : ∀ {ks : List Kd} {xs : List Str}, (∀ k ∈ ks, k ≠ Kd.name) → readsL ks xs = readsF ks xs
  | [], [], _ => rfl
  | [], _ :: _, _ => rfl
  | _ :: _, [], _ => rfl
  | k :: ks, x :: xs, h => by
    have ih := readsL_nn (ks := ks) (xs := xs) fun k hk => h k (List.mem_cons_of_mem _ hk)
    have e : lrd k x = k.rd x := by
      cases k with
      | name => exact absurd rfl (h .name (List.mem_cons_self ..))
      | word => rfl
      | words => rfl
      | row => rfl
      | number => rfl
      | bound => rfl
    show (match lrd k x, readsL ks xs with | some t, some ts => some (t :: ts) | _, _ => none) = (match k.rd x, readsF ks xs with | some t, some ts => some (t :: ts) | _, _ => none)
    rw [e, ih]
theorem readsL_rule (xs : List Str) : readsL ruleK xs = readsF ruleK xs := readsL_nn (by decide)
theorem word_none {xs : List Str} {lo : Int} {hi wd : Option Int} : ruleWord xs lo hi wd = Str.ofString "" ↔ partBad xs lo hi wd = none := by
  unfold ruleWord
  cases e : partBad xs lo hi wd with
  | none => exact ⟨fun _ => rfl, fun _ => rfl⟩
  | some s =>
    refine ⟨fun h => ?_, fun h => nomatch h⟩
    have h2 := congrArg tl h
    have h3 : tl (Str.ofString "badrule " ++ s) = tl (Str.ofString "badrule ") ++ tl s := tl_append _ _
    have h2 : tl (Str.ofString "badrule " ++ s) = tl (Str.ofString "") := h2
    rw [h3] at h2
    cases h2
/-! rule_text -/
abbrev sUT : Stmt := topS 32
theorem scUT : FnScope ["rule"] ["rule"] (defScope sUT) := ⟨rfl, rfl, rfl, by decide +kernel, rfl, by decide +kernel, by decide +kernel⟩
theorem ok_ut {f fST R : Addr} {fd fdST : FuncData} (F : Fun K "rule_text" "rule_text" sUT f fd) (GS : FnOk P w K mg base CX0 2 fST fdST ["self"] (spST R)) (sF : PySem.W.findIn K (.ref R) "__str__" = some (some (.ref fST))) (sI : PySem.W.isFn K (.ref fST) = true) (sB : Binds K fdST ["self"] []) (ms : mg "str" = none) :
    FnOk P w K mg base CX0 5 f fd ["rule"] (spST R) := by
  refine F.ok scUT (fun vs H Q E h => ?_) (fun cdv A outer s H vs Q E hr h => ?_)
  · obtain ⟨r, p, ys, lo, hi, sp, rfl, _⟩ := h
    rfl
  · obtain ⟨r, p, ys, lo, hi, sp, rfl, hR, hs, h1, h2, h3, q⟩ := h
    refine ⟨_, pss_one (ps_ret (pe_callTy (cs_own (own_of GS sF sI sB) hr) (by rfl) ms (by decide +kernel) (pa_cons (pv 0) pa_nil))), ?_⟩
    obtain ⟨dx, hr1, hr2⟩ := id hR
    exact ⟨_, rfl, r, dx, _, rfl, hr1, r, p, ys, lo, hi, sp, rfl, hR, hs, h1, h2, h3, fun H' s' => ⟨_, rfl, q H' s'⟩⟩
/-- read_rule of a text that is a rule's -/
def spREC (R : Addr) : Sp := fun vs H Q _ => ∃ (x : Str) (ws : List Str) (lo : Int) (hi sp : Option Int), vs = [.str x] ∧ (tl x).length ≤ 12000 ∧ ruleF x = some (ws, lo, hi, sp) ∧ ∀ (r pw : Addr) (ys : List Str) H', Same H H' → RuleAt H' R r pw ys lo hi sp → ys.Perm ws → sortedS ys = true → H r = none → Q (.ref r) H'
theorem re_calm {C R f : Addr} {fd : FuncData} {k : Nat} (G : FnOk P w K mg base (L2.CX P w) k f fd ["text"] (spRE R C)) : FnOk P w K mg base CX0 k f fd ["text"] (spREC R) :=
  calm_of G (fun vs H Q E h => by
    obtain ⟨x, ws, lo, hi, sp, e, hl, e2, q⟩ := h
    refine ⟨x, e, hl, fun ws' lo' hi' sp' e3 => ?_, fun e3 => ?_⟩
    · rw [e2] at e3
      injection e3 with e3
      injection e3 with a1 e3
      injection e3 with a2 e3
      injection e3 with a3 a4
      subst a1
      subst a2
      subst a3
      subst a4
      exact q
    · rw [e2] at e3
      cases e3)
end
end K46

set_option Elab.async false
set_option linter.all false
set_option maxRecDepth 100000
set_option maxHeartbeats 4000000
namespace K46
open PySem PySem.Spec PyProof.Rows L2 Pw TL
section
variable {P : Program} {w : World} {K : PySem.W.Frag} {mg : Str → Option Value} {base : Heap}
open LamX
theorem ext_same {H H' : Hp} (s : Same H H') : ExtN H H' := fun b o e _ => s b o e
theorem ext_trans {H H1 H2 : Hp} (a : ExtN H H1) (b : ExtN H1 H2) : ExtN H H2 := fun x o e n => b x o (a x o e n) n
theorem tabs_same {T : List (Addr × Str)} {H H' : Hp} (t : Tabs T H) (s : Same H H') : Tabs T H' := t.ext s
theorem tabs_x {T : List (Addr × Str)} {H H' : Hp} {p : Addr} {xs : List V} (t : Tabs T H) (hp : H p = some (.lst xs)) (s : SameX p H H') : Tabs T H' := fun e he => by
  obtain ⟨ps, h1, h2, h3⟩ := t e he
  refine ⟨ps, s _ _ h1 (fun z => ?_), h2, fun pos cv hc => ?_⟩
  · rw [z, hp] at h1
    cases h1
  · obtain ⟨c, e1, e2⟩ := h3 pos cv hc
    refine ⟨c, e1, s _ _ e2 (fun z => ?_)⟩
    rw [z, hp] at e2
    have e3 : HO.lst xs = CodeO p e.2 := Option.some.inj e2
    unfold CodeO at e3
    cases e3
theorem Dr.at {p q : Addr} {ns : List Int} {H : Hp} (h : Dr p q ns H) : ∃ xs, H p = some (.lst xs) := let ⟨_, a, b, c, e, _⟩ := h; ⟨_, e⟩
theorem Dr.ext {p q : Addr} {ns : List Int} {H H' : Hp} (h : Dr p q ns H) (s : ExtN H H') : Dr p q ns H' := ⟨s _ _ h.1 (fun _ z => by cases z), let ⟨a, b, c, e, r⟩ := h.2; ⟨a, b, c, s _ _ e (fun _ z => by cases z), r⟩⟩
theorem RuleAt.ext {H H' : Hp} {R r p : Addr} {ys : List Str} {lo : Int} {hi sp : Option Int} (h : RuleAt H R r p ys lo hi sp) (q : Addr) (s : SameX q H H') (h1 : r ≠ q) (h2 : p ≠ q) : RuleAt H' R r p ys lo hi sp := by
  obtain ⟨dx, e1, e2⟩ := h
  exact ⟨dx, s _ _ e1 h1, s _ _ e2 h2⟩
theorem lk_two {H : Hp} {n : Nat} {a b : Addr} {z : Str} (h1 : H a = some (.lst [.str z, .bl true])) (h2 : H b = some (.lst [.str z, .bl true])) : Lk K H (n + 1) (.ref a) (.ref b) :=
  .lst (SqL.of h1) (SqL.of h2) rfl (by show 2 ≤ 16000; decide) (fun i x y hx hy => by
    rw [hx] at hy
    obtain rfl : x = y := Option.some.inj hy
    have hm := List.mem_of_getElem? hx
    simp only [List.mem_cons, List.not_mem_nil, or_false] at hm
    rcases hm with rfl | rfl
    · exact .str _
    · exact .bl _)
theorem sameR_refl (ys : List Str) (lo : Int) (hi sp : Option Int) : sameR ys ys lo lo hi hi sp sp = true := by
  unfold sameR
  rw [decide_eq_true rfl, decide_eq_true rfl, decide_eq_true rfl, decide_eq_true rfl]
  rfl
theorem parts_x {p q : Addr} {ns : List Int} {H H1 : Hp} {T t : Addr} {xs : List Str} {lo : Int} {hi wd : Option Int} (h : Parts H T t xs lo hi wd) (hD : Dr p q ns H) (g : SameX p H H1) : Parts H1 T t xs lo hi wd := by
  obtain ⟨ys, hp⟩ := hD.at
  obtain ⟨h1, h2⟩ := h
  exact ⟨g _ _ h1 (fun z => by rw [z, hp] at h1; cases h1), g _ _ h2 (fun z => by rw [z, hp] at h2; cases h2)⟩
/-! law -/
abbrev sLW : Stmt := topS 57
abbrev nLW : List Str := ["_law_script","_law_draw","_law_turn","_law_r","_law_own","_law_line","_law_bend","_law_due","_law_found","_law_at"]
theorem scLW : FnScope nLW ["_law_script"] (defScope sLW) := ⟨rfl, rfl, rfl, by decide +kernel, rfl, by decide +kernel, by decide +kernel⟩
def qL : Str := (envOfC "law" (defScope sLW) 0 0 Value.none).qual ++ "<lambda>"
structure Calls (P : Program) (w : World) (K : PySem.W.Frag) (mg : Str → Option Value) (base : Heap) (C R fRE : Addr) (fdRE : FuncData) : Prop where
  B : BN mg
  srt : mg "sorted" = none
  op : UseD P w K mg base CX0 1 "_law_open" ["_law_script"] (spOP K)
  pu : UseD P w K mg base CX0 1 "_law_pull" ["_law_draw", "_law_total_of"] spPU
  pa : UseD P w K mg base CX0 5 "_law_parts" ["_law_draw"] (spPA 6)
  rl : UseD P w K mg base CX0 7 "_law_rule" ["_law_r"] (spRL R)
  ut : UseD P w K mg base CX0 5 "rule_text" ["rule"] (spST R)
  rt : UseD P w K mg base CX0 1 "_law_rule_text" ["_law_r"] spRT
  od : UseD P w K mg base CX0 6 "_law_odd_parts" ["_law_draw"] (spPO 30)
  tx : UseD P w K mg base CX0 2 "_law_text_of" ["_law_r"] spTX
  bn : UseD P w K mg base CX0 2 "_law_bent_text" ["_law_draw","_law_text"] spBN
  pp : UseD P w K mg base CX0 3 "_law_parts_in" ["_law_some","_law_form"] spPP
  ru : UseD P w K mg base CX0 2 "_law_rule_word" ["_law_r"] spRU
  sr : UseD P w K mg base CX0 5 "_law_same_rule" ["_law_made", "_law_r"] (spSR R)
  lk : UseD P w K mg base CX0 4 "_law_like" ["_law_found", "_law_due"] (spLK K 3)
  c : RuleC K R
  i : IsiC K R
  eq : ∃ (f : Addr) (fd : FuncData), FnOk P w K mg base CX0 1 f fd ["self", "other"] (spEQ K R) ∧ PySem.W.findIn K (.ref R) "__eq__" = some (some (.ref f)) ∧ PySem.W.isFn K (.ref f) = true ∧ Binds K fd ["self", "other"] []
  re : FnOk P w K mg base (L2.CX P w) 7 fRE fdRE ["text"] (spRE R C)
  rem : mg "read_rule" = some (.ref fRE)
  rek : PySem.W.keepIn K (.ref fRE) = true
  reb : Binds K fdRE ["text"] []
def spLW (K : PySem.W.Frag) (TT : List (Addr × Str)) : Sp := fun vs H Q _ => ∃ (a : Addr) (ns : List Int), vs = [.ref a] ∧ SqL K H a (ns.map V.int) ∧ Tabs TT H ∧ ∀ H', Q (.bl true) H'
theorem ok_lw {f fW c Pt C R fRE : Addr} {fdRE : FuncData} {dV kV doc pm ct oc dV' kV' doc' pm' cdw ct' oc' : Value} {an od an' od' : Option Addr} {osl osl' : Array (Option Value)}
    (lk : K.lookup f = some ⟨oc, od, .func (PySem.W.fnOf "law" "law" (defArgs sLW) (defBody sLW) (defScope sLW) dV kV doc pm an (.ref c) ct), osl⟩) (hcd : PySem.W.codeIn K (.ref c) "law" = true)
    (lkW : K.lookup fW = some ⟨oc', od', .func (PySem.W.fnOf "_law_text_told" "_law_text_told" (defArgs sTO) (defBody sTO) (defScope sTO) dV' kV' doc' pm' an' cdw ct'), osl'⟩) (hcW : PySem.W.codeIn K cdw "_law_text_told" = true) (mW : mg "_law_text_told" = some (.ref fW)) (kW : PySem.W.keepIn K (.ref fW) = true)
    (bW : Binds K (PySem.W.fnOf "_law_text_told" "_law_text_told" (defArgs sTO) (defBody sTO) (defScope sTO) dV' kV' doc' pm' an' cdw ct') ["_law_ask"] [])
    (TB : TabB base mg c Pt) (TC : ClsT K mg C) (Z : Calls P w K mg base C R fRE fdRE) :
    FnOk P w K mg base CX0 10 f (PySem.W.fnOf "law" "law" (defArgs sLW) (defBody sLW) (defScope sLW) dV kV doc pm an (.ref c) ct) ["_law_script"] (spLW K [(Pt, qL)]) := by
  obtain ⟨fOP, fdOP, GOP, opm, opk, opb⟩ := Z.op.ex
  obtain ⟨fPU, fdPU, GPU, pum, puk, pub⟩ := Z.pu.ex
  obtain ⟨fPA, fdPA, GPA, pam, pak, pab⟩ := Z.pa.ex
  obtain ⟨fRL, fdRL, GRL, rlm, rlk, rlb⟩ := Z.rl.ex
  obtain ⟨fUT, fdUT, GUT, utm, utk, utb⟩ := Z.ut.ex
  obtain ⟨fRT, fdRT, GRT, rtm, rtk, rtb⟩ := Z.rt.ex
  obtain ⟨fOD, fdOD, GOD, odm, odk, odb⟩ := Z.od.ex
  obtain ⟨fTX, fdTX, GTX, txm, txk, txb⟩ := Z.tx.ex
  obtain ⟨fBN, fdBN, GBN, bnm, bnk, bnb⟩ := Z.bn.ex
  obtain ⟨fPP, fdPP, GPP, ppm, ppk, ppb⟩ := Z.pp.ex
  obtain ⟨fRU, fdRU, GRU, rum, ruk, rub⟩ := Z.ru.ex
  obtain ⟨fSR, fdSR, GSR, srm, srk, srb⟩ := Z.sr.ex
  obtain ⟨fLK, fdLK, GLK, lkm, lkk, lkb⟩ := Z.lk.ex
  obtain ⟨fE, fdE, GE, eF, eI, eB⟩ := Z.eq
  have GRE := Z.re
  have GRC := re_calm Z.re
  have rem := Z.rem
  have rek := Z.rek
  have reb := Z.reb
  have B := Z.B
  refine fn_of lk hcd scLW (fun vs H Q E h => ?_) (fun A outer s H vs Q E hr h => ?_)
  · obtain ⟨a, ns, rfl, _⟩ := h
    rfl
  · obtain ⟨a, ns, rfl, hS, hT, q⟩ := h
    have r1 : Room 1 _ := hr.mono (by decide)
    have r2 : Room 2 _ := hr.mono (by decide)
    have r3 : Room 3 _ := hr.mono (by decide)
    have r4 : Room 4 _ := hr.mono (by decide)
    have r5 : Room 5 _ := hr.mono (by decide)
    have r6 : Room 6 _ := hr.mono (by decide)
    have r7 : Room 7 _ := hr.mono (by decide)
    have toldG : ∀ X : Cx, X.K = K → X.mg = mg → GivesW X nTO "_law_text_told" (defScope sTO) fW cdw (defBody sTO) "_law_ask" (X.env.qual ++ "<lambda>") (TTtold K [(.ref C, tsAt C)]) := fun X e1 e2 => by
      subst e1
      subst e2
      exact told_ok TC
    suffices hh : ∃ t, PSs (cxOf CX0 P w K mg base nLW "law" (defScope sLW) f (.ref c) A outer s H E).nox (defBody sLW) t ∧ t { nx := fun _ H' => Q .non H', rt := Q } (L2.start nLW [.ref a]) H by
      obtain ⟨t, h1, h2⟩ := hh
      exact ⟨t, h1.nox, h2⟩
    refine ⟨_, (pss_cons (ps_set (i := 1) scLW.nd rfl (.inl rfl) (pe_call GOP r1 rfl opm opk opb .nil pass0 (pa_cons (pv 0) pa_nil)))
      (pss_cons (ps_for PassesOwn.never rfl (pi_range1 rfl B.rng (pa_cons pe_int pa_nil)) (pg_name (i := 2) scLW.nd rfl (.inl rfl))
        (pss_cons (ps_set (i := 3) scLW.nd rfl (.inl rfl) (pe_call GPA r5 rfl pam pak pab .nil pass0 (pa_cons (pv 1) pa_nil)))
        (pss_cons (ps_set (i := 4) scLW.nd rfl (.inl rfl) (pe_call GRL r7 rfl rlm rlk rlb .nil pass0 (pa_cons (pv 3) pa_nil)))
        (_root_.C8.pss_cut (ps_if (pt_not (pt_val (pe_call GLK r4 rfl lkm lkk lkb .nil pass0 (pa_cons (pe_lst (pa_cons (pe_call GUT r5 rfl utm utk utb .nil pass0 (pa_cons (pv 4) pa_nil)) (pa_cons (pe_cmpR (op_eqOwn (own_of GE eF eI eB) r1) (pe_call GRC r7 rfl rem rek reb .nil pass0 (pa_cons (pe_call GRT r1 rfl rtm rtk rtb .nil pass0 (pa_cons (pv 3) pa_nil)) pa_nil)) (pv 4) (nomark _)) pa_nil))) (pa_cons (pe_lst (pa_cons (pe_call GRT r1 rfl rtm rtk rtb .nil pass0 (pa_cons (pv 3) pa_nil)) (pa_cons pe_bl pa_nil))) pa_nil)))))
          (pss_one (ps_ret pe_bl))
          pss_nil)
        (_root_.C8.pss_cut (ps_set (i := 5) scLW.nd rfl (.inr rfl) (pe_call GTX r2 rfl txm txk txb .nil pass0 (pa_cons (pe_call GOD r6 rfl odm odk odb .nil pass0 (pa_cons (pv 1) pa_nil)) pa_nil)))
        (_root_.C8.pss_cut (ps_if (pt_cmpR op_eq (pe_call GPU r1 rfl pum puk pub .nil pass0 (pa_cons (pv 1) (pa_cons pe_int pa_nil))) pe_int (nomark _))
          (pss_one (ps_set (i := 5) scLW.nd rfl (.inr rfl) (pe_call GRT r1 rfl rtm rtk rtb .nil pass0 (pa_cons (pv 3) pa_nil))))
          pss_nil)
        (pss_cons (ps_for PassesOwn.never rfl (pi_range1 rfl B.rng (pa_cons (pe_call GPU r1 rfl pum puk pub .nil pass0 (pa_cons (pv 1) (pa_cons pe_int pa_nil))) pa_nil)) (pg_name (i := 6) scLW.nd rfl (.inl rfl))
          (pss_one (ps_set (i := 5) scLW.nd rfl (.inr rfl) (pe_call GBN r2 rfl bnm bnk bnb .nil pass0 (pa_cons (pv 1) (pa_cons (pv 5) pa_nil))))))
        (_root_.C8.pss_cut (ps_set (i := 7) scLW.nd rfl (.inl rfl) (pe_call GPP r3 rfl ppm ppk ppb .nil pass0 (pa_cons (pe_split (pv 5) pe_str) (pa_cons pe_str pa_nil))))
        (_root_.C8.pss_cut (ps_if (PW.pt (pw_and (pt_cmpR op_notN (pv 7) pe_non (nomark _)) (pw_and1 (PW.pt (pw_or (pt_cmpR op_ne (pe_call GRU r2 rfl rum ruk rub .nil pass0 (pa_cons (pv 7) pa_nil)) pe_str (nomark _)) (pw_or1 (pt_cmpR (op_neD hr.units) (pe_callTy call_list_of (by rfl) B.lst (by decide +kernel) (pa_cons (pe_ix ix_tup (pv 7) pe_int (fun _ _ => rfl)) pa_nil)) (pe_callB (cr_sortTW hr.units) (by rfl) Z.srt (by decide +kernel) (pa_cons (pe_ix ix_tup (pv 7) pe_int (fun _ _ => rfl)) pa_nil)) (nomark _))))))))
          (pss_one (ps_set (i := 7) scLW.nd rfl (.inl rfl) pe_non))
          pss_nil)
        (_root_.C8.pss_cut (ps_asg (pe_lamW (T := [(Pt, qL)]) (k := 7) (x := "_law_text_told") (a := "_law_ask") rfl mW kW lkW hcW bW scTO rfl (.inl rfl) (toldG _ rfl rfl) TB rfl (List.mem_singleton.mpr rfl) (fun p hp _ => by rw [List.mem_singleton.mp hp]; rfl) (hr.mono (by decide)) (lamS_by (sc := defScope sLW) (by decide +kernel)) rfl (fun _ _ _ _ _ => rfl) (fun A outer s H E f c' hr4 => (pe_call (E := E) GRE hr4 rfl rem rek reb .nil (passes_call (takes_of rfl rfl rfl rfl) (fun _ _ _ _ z => z)) (pa_cons (pv 5) pa_nil)))) (pg_tup rfl (pgs_cons (pg_name (i := 8) scLW.nd rfl (.inl rfl)) (pgs_cons (pg_name (i := 9) scLW.nd rfl (.inl rfl)) pgs_nil))))
        (pss_one (ps_if (PW.pt (pw_or (pt_cmpR op_ne (pv 9) (pe_ifExp (pt_cmpR op_isN (pv 7) pe_non (nomark _)) pe_int pe_non) (nomark _)) (pw_or1 (PW.pt (pw_and (pt_cmpR op_notN (pv 7) pe_non (nomark _)) (pw_and1 (pt_not (pt_val (pe_call GSR r5 rfl srm srk srb .nil pass0 (pa_cons (pv 8) (pa_cons (pv 7) pa_nil)))))))))))
          (pss_one (ps_ret pe_bl))
          pss_nil))))))))))))
      (pss_one (ps_ret pe_bl)))), ?_⟩
    refine ⟨.ref a, rfl, a, ns, rfl, hS, fun H1 p qq ms s1 np hD1 => ?_⟩
    have hT1 := tabs_same hT s1
    refine ⟨6, rfl, by decide, by decide, for_range (lo := 0) (n := 6) (fun i σ G => (∃ y2 y3 y4 y5 y6 y7 y8 y9, σ = [some (.ref a), some (.ref p), y2, y3, y4, y5, y6, y7, y8, y9]) ∧ Dr p qq ms G ∧ Tabs [(Pt, qL)] G) ⟨⟨none, none, none, none, none, none, none, none, rfl⟩, hD1, hT1⟩ (fun i σ G _ h => ?_) (fun σ G h => ?_)⟩
    rotate_left
    · exact q G
    obtain ⟨⟨y2, y3, y4, y5, y6, y7, y8, y9, rfl⟩, hD2, hT2⟩ := h
    clear hD1 hT1 s1 np
    refine ⟨_, rfl, p, qq, ms, rfl, hD2, fun T t xs lo hi wd H3 h6 hg hsr hpb nT nt hP g3 => ?_⟩
    have hT3 : Tabs [(Pt, qL)] H3 := by
      obtain ⟨_, hp⟩ := hD2.at
      exact tabs_x hT2 hp g3.sx
    have hD3 := g3.dr
    have l6 : xs.length ≤ 6 := h6
    obtain ⟨z1, z2, z3⟩ := small_parts hpb
    have hSh : ShortT xs := ⟨by omega, fun y hy => ⟨Nat.le_trans (hg.1 y hy).1 (by decide), (hg.1 y hy).2⟩⟩
    have hlen := rule_len l6 hg hpb
    have hback := rule_back l6 hg hsr hpb
    have nf : PySem.W.notFirst K R (.ref R) = true := by simp [PySem.W.notFirst]
    refine ⟨_, rfl, T, t, xs, lo, hi, wd, rfl, hP, by omega, hg.1, hpb, fun r pw ys H4 s4 nr npw hR hpm hys => ?_⟩
    obtain rfl : ys = xs := sortedS_one hpm hys hsr
    have hD4 := hD3.same s4
    have hT4 := tabs_same hT3 s4
    have hP4 := hP.same s4
    clear hD2 hT2 hD3 hT3 g3 hP
    refine ⟨fun σ G => (σ = [some (.ref a), some (.ref p), some (.int (0 + (i : Int))), some (.ref T), some (.ref r), y5, y6, y7, y8, y9]) ∧ Dr p qq ms G ∧ Tabs [(Pt, qL)] G ∧ Parts G T t ys lo hi wd, ?_, ?_⟩
    · refine ⟨_, rfl, r, pw, ys, lo, hi, wd, rfl, hR, hSh, z1, z2, z3, fun H5 s5 => ?_⟩
      refine ⟨_, rfl, T, t, ys, lo, hi, wd, rfl, hP4.same s5, hSh, hsr, z1, z2, z3, fun H6 s6 => ?_⟩
      refine ⟨_, ys, lo, hi, wd, rfl, by rw [← len_tl]; omega, hback, fun r2 pw2 ys2 H7 s7 hR2 hpm2 hys2 nr2 => ?_⟩
      obtain rfl : ys2 = ys := sortedS_one hpm2 hys2 hsr
      have s567 := s5.trans (s6.trans s7)
      have hR7 := hR.same s567
      obtain ⟨dx2, e1, e2⟩ := id hR2
      refine ⟨_, rfl, r2, dx2, _, .ref R, rfl, e1, ty_rule Z.c Z.i hR7, nf, r2, pw2, ys2, lo, hi, wd, hR2, hg.1, .inl ⟨r, pw, ys2, lo, hi, wd, rfl, hR7, hg.1, ?_⟩⟩
      rw [sameR_refl]
      refine ⟨by show 2 ≤ sizeLine; decide, fun L nL => ?_⟩
      have sL := same_new (o := .lst [.str (ruleT ys2 lo hi wd), .bl true]) nL
      refine ⟨_, rfl, T, t, ys2, lo, hi, wd, rfl, hP4.same (s567.trans sL), hSh, hsr, z1, z2, z3, fun H8 s8 => ⟨by show 2 ≤ sizeLine; decide, fun M nM => ?_⟩⟩
      have sM := same_new (o := .lst [.str (ruleT ys2 lo hi wd), .bl true]) nM
      have sA := s567.trans (sL.trans (s8.trans sM))
      refine ⟨_, _, rfl, lk_two (sM _ _ (s8 _ _ upd_same)) upd_same, fun G sG => ⟨_, rfl, iteF ?_⟩⟩
      have sB := sA.trans sG
      exact ⟨rfl, hD4.same sB, tabs_same hT4 sB, hP4.same sB⟩
    clear hD4 hT4 hP4 hR s4 nr npw hpm hys
    rintro _ G1 ⟨rfl, hD5, hT5, hP5⟩
    refine ⟨fun σ G => ∃ ln : Str, (σ = [some (.ref a), some (.ref p), some (.int (0 + (i : Int))), some (.ref T), some (.ref r), some (.str ln), y6, y7, y8, y9] ∧ ln.length ≤ 2804) ∧ Dr p qq ms G ∧ Tabs [(Pt, qL)] G ∧ Parts G T t ys lo hi wd, ?_, ?_⟩
    · refine ⟨_, rfl, p, qq, ms, rfl, hD5, fun T2 t2 xs2 lo2 hi2 wd2 H8 h30 hs2 hz2 nT2 nt2 hP2 g8 => ⟨T2, t2, xs2, lo2, hi2, wd2, rfl, hP2, h30, hs2, hz2, fun z H9 hz9 s9 => ⟨z, ⟨rfl, hz9⟩, g8.dr.same s9, ?_, (parts_x hP5 hD5 g8.sx).same s9⟩⟩⟩
      obtain ⟨_, hp⟩ := hD5.at
      exact tabs_same (tabs_x hT5 hp g8.sx) s9
    clear hD5 hT5 hP5
    rintro _ G2 ⟨ln, ⟨rfl, hln⟩, hD6, hT6, hP6⟩
    refine ⟨fun σ G => ∃ ln : Str, (σ = [some (.ref a), some (.ref p), some (.int (0 + (i : Int))), some (.ref T), some (.ref r), some (.str ln), y6, y7, y8, y9] ∧ ln.length ≤ 2804) ∧ Dr p qq ms G ∧ Tabs [(Pt, qL)] G, ?_, ?_⟩
    · refine ⟨_, rfl, p, qq, ms, 2, rfl, by decide, by decide, hD6, fun v H9 _ _ sx9 hD9 => ⟨rfl, _, rfl, ?_⟩⟩
      have hT9 : Tabs [(Pt, qL)] H9 := by
        obtain ⟨_, hp⟩ := hD6.at
        exact tabs_x hT6 hp sx9
      refine ite2 (fun _ => ?_) (fun _ => ⟨ln, ⟨rfl, hln⟩, hD9, hT9⟩)
      exact ⟨_, rfl, T, t, ys, lo, hi, wd, rfl, parts_x hP6 hD6 sx9, hSh, hsr, z1, z2, z3, fun H10 s10 => ⟨_, ⟨rfl, by omega⟩, hD9.same s10, tabs_same hT9 s10⟩⟩
    clear hD6 hT6 hP6 hln ln
    rintro _ G3 ⟨ln, ⟨rfl, hln⟩, hD7, hT7⟩
    generalize V.ref r = rv
    generalize V.ref T = tv
    clear hback hlen hSh hg hsr hpb z1 z2 z3 h6 l6 nT nt nf
    refine ⟨_, rfl, p, qq, ms, 3, rfl, by decide, by decide, hD7, fun bv H5 b0 b1 sx5 hD5 => ?_⟩
    have hT5 : Tabs [(Pt, qL)] H5 := by
      obtain ⟨_, hp⟩ := hD7.at
      exact tabs_x hT7 hp sx5
    obtain ⟨b, rfl⟩ := Int.eq_ofNat_of_zero_le b0
    have b3 : b ≤ 2 := by omega
    clear hD7 hT7 sx5 b0 b1
    refine ⟨(b : Nat), rfl, by omega, by omega, for_range (lo := 0) (n := b) (fun j σ G => (∃ (l2 : Str) (z6 : Option V), σ = [some (.ref a), some (.ref p), some (.int (0 + (i : Int))), some tv, some rv, some (.str l2), z6, y7, y8, y9] ∧ l2.length + 12 ≤ 2816 * 2 ^ j) ∧ Dr p qq ms G ∧ Tabs [(Pt, qL)] G) ⟨⟨ln, y6, rfl, by omega⟩, hD5, hT5⟩ (fun j σ G hj h => ?_) (fun σ G h => ?_)⟩
    · obtain ⟨⟨l2, z6, rfl, hl2⟩, hD6, hT6⟩ := h
      have hp2 : 2 ^ j ≤ 2 := by
        have : j = 0 ∨ j = 1 := by omega
        rcases this with rfl | rfl <;> decide
      refine ⟨_, rfl, _, rfl, p, qq, ms, l2, rfl, hD6, by omega, fun z G2 hz g2 => ⟨⟨z, _, rfl, ?_⟩, g2.dr, ?_⟩⟩
      · rw [Nat.pow_succ]
        omega
      · obtain ⟨_, hp⟩ := hD6.at
        exact tabs_x hT6 hp g2.sx
    obtain ⟨⟨l2, z6, rfl, hl2⟩, hD6, hT6⟩ := h
    have hl3 : (tl l2).length ≤ 12000 := by
      have hp2 : 2 ^ b ≤ 4 := by
        have : b = 0 ∨ b = 1 ∨ b = 2 := by omega
        rcases this with rfl | rfl | rfl <;> decide
      rw [← len_tl]
      omega
    clear hl2 hln hD5 hT5 b3
    have hsh : ∀ y ∈ Txt.split l2 blank1, (tl y).length ≤ 12000 := fun y hy => by
      rw [← len_tl]
      exact Nat.le_trans (split_short hy) (by rw [len_tl]; exact hl3)
    refine ⟨fun σ G => ∃ dv : V, (σ = [some (.ref a), some (.ref p), some (.int (0 + (i : Int))), some tv, some rv, some (.str l2), z6, some dv, y8, y9] ∧ ((readsF ruleK (Txt.split l2 blank1) = none ∧ dv = .non) ∨ ∃ ths TT us, readsF ruleK (Txt.split l2 blank1) = some ths ∧ dv = .ref TT ∧ G TT = some (.tup us) ∧ VThs G us ths)) ∧ Dr p qq ms G ∧ Tabs [(Pt, qL)] G, ?_, ?_⟩
    · refine ⟨_, rfl, ⟨l2, rfl⟩, l2, blank1, rfl, rfl, rfl, (by rw [len_tl]; exact Nat.le_trans (Nat.add_le_add_right hl3 2) (by decide)), fun L nL => ?_⟩
      have sL := same_new (o := .lst ((Txt.split l2 blank1).map V.str)) nL
      refine ⟨L, ruleK, Txt.split l2 blank1, rfl, upd_same, by decide, hsh, fun ths e TT us G sG hTT hv => ?_, fun e G sG => ?_⟩
      · rw [readsL_rule] at e
        exact ⟨.ref TT, ⟨rfl, .inr ⟨ths, TT, us, e, rfl, hTT, hv⟩⟩, hD6.same (sL.trans sG), tabs_same hT6 (sL.trans sG)⟩
      · rw [readsL_rule] at e
        exact ⟨.non, ⟨rfl, .inl ⟨e, rfl⟩⟩, hD6.same (sL.trans sG), tabs_same hT6 (sL.trans sG)⟩
    clear hD6 hT6
    rintro _ G4 ⟨dv, ⟨rfl, hdv⟩, hD7, hT7⟩
    refine ⟨fun σ G => ∃ dv : V, (σ = [some (.ref a), some (.ref p), some (.int (0 + (i : Int))), some tv, some rv, some (.str l2), z6, some dv, y8, y9] ∧ ((ruleF l2 = none ∧ dv = .non) ∨ ∃ ws lo hi sp TT tt, ruleF l2 = some (ws, lo, hi, sp) ∧ dv = .ref TT ∧ Parts G TT tt ws lo hi sp ∧ ws.length ≤ 60)) ∧ Dr p qq ms G ∧ Tabs [(Pt, qL)] G, ?_, ?_⟩
    · rcases hdv with ⟨e, rfl⟩ | ⟨ths, TT, us, e, rfl, hTT, hv⟩
      · refine ⟨_, rfl, rfl, _, rfl, iteF (iteF ?_)⟩
        exact ⟨.non, ⟨rfl, .inl ⟨by unfold ruleF; rw [e], rfl⟩⟩, hD7, hT7⟩
      · obtain ⟨ws, n, ta, tb, rfl, h4, hw, ha, hb, hz⟩ := reads4 e
        obtain ⟨hwl, hwz⟩ := hz hsh
        cases hv with
        | @cons v0 _ _ _ g0 hv =>
        cases hv with
        | @cons v1 _ _ _ g1 hv =>
        cases hv with
        | @cons v2 _ _ _ g2 hv =>
        cases hv with
        | @cons v3 _ _ _ g3 hv =>
        cases hv
        obtain ⟨tt, rfl, htt⟩ := g0
        obtain rfl : v1 = .int (n : Nat) := g1
        obtain rfl := ha _ _ g2
        obtain rfl := hb _ _ g3
        have hP : Parts G4 TT tt ws (n : Nat) (thI ta) (thI tb) := ⟨hTT, htt⟩
        have bad : ¬ (sortW ws = ws ∧ partBad ws (n : Nat) (thI ta) (thI tb) = none) → ∀ G, Same G4 G → ∃ dv : V, ([some (V.ref a), some (.ref p), some (.int (0 + (i : Int))), some tv, some rv, some (.str l2), z6, some .non, y8, y9] = [some (.ref a), some (.ref p), some (.int (0 + (i : Int))), some tv, some rv, some (.str l2), z6, some dv, y8, y9] ∧ ((ruleF l2 = none ∧ dv = .non) ∨ ∃ ws lo hi sp TT tt, ruleF l2 = some (ws, lo, hi, sp) ∧ dv = .ref TT ∧ Parts G TT tt ws lo hi sp ∧ ws.length ≤ 60)) ∧ Dr p qq ms G ∧ Tabs [(Pt, qL)] G := fun hn G sG => by
          refine ⟨.non, ⟨rfl, .inl ⟨?_, rfl⟩⟩, hD7.same sG, tabs_same hT7 sG⟩
          unfold ruleF
          rw [e]
          exact if_neg hn
        refine ⟨_, rfl, rfl, _, rfl, iteT ⟨_, rfl, TT, tt, ws, (n : Nat), thI ta, thI tb, rfl, hP, by omega, hwz, fun G5 s5 => ⟨rfl, _, rfl, ?_⟩⟩⟩
        by_cases hpb : partBad ws (n : Nat) (thI ta) (thI tb) = none
        rotate_left
        · rw [decide_eq_false (fun z => hpb (word_none.mp (V.str.inj z)))]
          exact iteT (iteT (bad (fun z => hpb z.2) G5 s5))
        rw [decide_eq_true (by rw [word_none.mpr hpb])]
        have hl6 := bad_len hpb
        refine iteF ⟨_, rfl, TT, _, 0, .ref tt, rfl, rfl, SqT.of (s5 _ _ hTT), rfl, tt, _, rfl, .inr (SqT.of (s5 _ _ htt)), fun L nL => ?_⟩
        have sL := same_new (o := .lst (ws.map V.str)) nL
        refine ⟨_, rfl, TT, _, 0, .ref tt, rfl, rfl, SqT.of (sL _ _ (s5 _ _ hTT)), rfl, tt, ws, rfl, SqT.of (sL _ _ (s5 _ _ htt)), fun M nM => ?_⟩
        have sM := same_new (o := .lst ((sortW ws).map V.str)) nM
        have s7 := s5.trans (sL.trans sM)
        refine ⟨.list (ws.map PyData.str), .list ((sortW ws).map PyData.str), .lst (SqL.of (sM _ _ upd_same)) (words_dp ws), .lst (SqL.of upd_same) (words_dp _), shaped_strs ws fun y hy => word_okS (hw y hy), shaped_strs _ fun y hy => word_okS (hw y ((sortW_perm ws).mem_iff.mp hy)), _, rfl, ?_⟩
        rw [eqv_list]
        by_cases hs : ws = sortW ws
        rotate_left
        · rw [decide_eq_false hs]
          exact iteT (bad (fun z => hs z.1.symm) _ s7)
        rw [decide_eq_true hs]
        refine iteF ⟨.ref TT, ⟨rfl, .inr ⟨ws, (n : Nat), thI ta, thI tb, TT, tt, ?_, rfl, hP.same s7, by omega⟩⟩, hD7.same s7, tabs_same hT7 s7⟩
        unfold ruleF
        rw [e]
        exact if_pos ⟨hs.symm, hpb⟩
    clear hD7 hT7 hdv
    rintro _ G5 ⟨dv, ⟨rfl, hdv⟩, hD8, hT8⟩
    refine ⟨fun σ G => ∃ fv av : V, (σ = [some (.ref a), some (.ref p), some (.int (0 + (i : Int))), some tv, some rv, some (.str l2), z6, some dv, some fv, some av] ∧ ((dv = .non ∧ fv = .non ∧ av = .int 0) ∨ ∃ ws lo hi sp TT tt r pw ys, dv = .ref TT ∧ fv = .ref r ∧ av = .non ∧ Parts G TT tt ws lo hi sp ∧ ws.length ≤ 60 ∧ RuleAt G R r pw ys lo hi sp ∧ ys.Perm ws ∧ sortedS ys = true)) ∧ Dr p qq ms G ∧ Tabs [(Pt, qL)] G, ?_, ?_⟩
    · refine ⟨hT8, fun H10 e10 T10 => ?_⟩
      have hD10 := hD8.ext e10
      refine told_gen TC.me (fun v G => Same H10 G ∧ ∃ ws lo hi sp r pw ys, ruleF l2 = some (ws, lo, hi, sp) ∧ v = .ref r ∧ RuleAt G R r pw ys lo hi sp ∧ ys.Perm ws ∧ sortedS ys = true) (fun G => Same H10 G ∧ ruleF l2 = none) (fun U G G0 v gd s01 hU nU => ?_) (fun U G G0 bd s01 hU nU => ?_) (fun E Q' hq hb => ?_)
      · obtain ⟨s02, ws, lo, hi, sp, r, pw, ys, e, rfl, hR, hpm, hys⟩ := gd
        have s12 := s02.trans s01
        refine ⟨U, _, rfl, .inl (.inl hU), rfl, _, _, rfl, _, _, rfl, rfl, _, _, ⟨rfl, .inr ?_⟩, hD10.same s12, tabs_same T10 s12⟩
        rcases hdv with ⟨e2, _⟩ | ⟨ws2, lo2, hi2, sp2, TT, tt, e2, rfl, hP2, h60⟩
        · rw [e] at e2
          cases e2
        · rw [e] at e2
          injection e2 with e2
          injection e2 with a1 e2
          injection e2 with a2 e2
          injection e2 with a3 a4
          subst a1
          subst a2
          subst a3
          subst a4
          have ex := ext_trans e10 (ext_same s12)
          exact ⟨ws, lo, hi, sp, TT, tt, r, pw, ys, rfl, rfl, rfl, ⟨ex _ _ hP2.1 (fun _ z => by cases z), ex _ _ hP2.2 (fun _ z => by cases z)⟩, h60, hR.same s01, hpm, hys⟩
      · obtain ⟨s02, e⟩ := bd
        have s12 := s02.trans s01
        refine ⟨U, _, rfl, .inl (.inl hU), rfl, _, _, rfl, _, _, rfl, rfl, _, _, ⟨rfl, .inl ?_⟩, hD10.same s12, tabs_same T10 s12⟩
        rcases hdv with ⟨_, rfl⟩ | ⟨ws2, lo2, hi2, sp2, TT, tt, e2, _⟩
        · exact ⟨rfl, rfl, rfl⟩
        · rw [e] at e2
          cases e2
      · exact ⟨_, rfl, l2, rfl, hl3, fun ws lo hi sp e r pw ys G2 s2 hR hpm hys _ => hq _ _ ⟨s2, ws, lo, hi, sp, r, pw, ys, e, rfl, hR, hpm, hys⟩, fun e d G2 s2 nd hd => hb d G2 ⟨s2, e⟩ hd⟩
    clear hD8 hT8 hdv
    rintro _ G6 ⟨fv, av, ⟨rfl, hh⟩, hD9, hT9⟩
    rcases hh with ⟨rfl, rfl, rfl⟩ | ⟨ws, lo, hi, sp, TT, tt, r, pw, ys, rfl, rfl, rfl, hP, h60, hR, hpm, hys⟩
    · refine ⟨_, rfl, _, rfl, rfl, _, rfl, iteT ⟨rfl, _, rfl, iteF ⟨_, rfl, rfl, _, rfl, iteF (iteF ?_)⟩⟩⟩
      exact ⟨⟨_, _, _, _, _, _, _, _, rfl⟩, hD9, hT9⟩
    · refine ⟨_, rfl, _, rfl, rfl, _, rfl, iteF ⟨rfl, _, rfl, iteF ⟨_, rfl, rfl, _, rfl, iteT ⟨_, rfl, _, rfl, r, pw, TT, tt, ys, ws, lo, hi, sp, rfl, hR, hpm, hys, hP, h60, fun G7 s7 => ⟨_, rfl, iteF ?_⟩⟩⟩⟩⟩
      exact ⟨⟨_, _, _, _, _, _, _, _, rfl⟩, hD9.same s7, tabs_same hT9 s7⟩
end
end K46

set_option Elab.async false
set_option linter.all false
set_option maxRecDepth 100000
set_option maxHeartbeats 4000000
namespace K46
open PySem PySem.Spec PyProof.Rows L2 Pw TL
section
theorem kit_me {K : PySem.W.Frag} (R : Addr) : PySem.W.kitOne K (.ref R) (.ref R) = some true := by
  unfold PySem.W.kitOne
  rw [if_pos (by simp)]
theorem kit_no {K : PySem.W.Frag} {R : Addr} {T : String} (h1 : PySem.W.isClsIn K R = true) (h2 : PySem.W.typeIn K (.ref R) = some (.type "type")) (h3 : PySem.W.subIn K (.type T) (.ref R) = some false) : PySem.W.kitOne K (.type T) (.ref R) = some false := by
  have a1 : (PySem.W.clsIn K R).isSome = true := h1
  have a2 : ((PySem.W.clsIn K R).isSome && PySem.W.typeIn K (.ref R) == some (.type "type")) = true := by
    rw [a1, h2]
    rfl
  unfold PySem.W.kitOne
  rw [if_neg (by simp)]
  show (if ((PySem.W.clsIn K R).isSome && PySem.W.typeIn K (.ref R) == some (.type "type")) = true then PySem.W.subIn K (.type T) (.ref R) else none) = some false
  rw [if_pos a2]
  exact h3
end
section
variable {w : World} {K : PySem.W.Frag} {mg : Str → Option Value} {base : Heap}
/-! BadText's __init__ -/
abbrev sI1 : Stmt := inClass (topS 4) 0
theorem err_text {C fI cc cda : Addr} {kV doc pm ct oc : Value} {an od : Option Addr} {osl : Array (Option Value)} (T : SupC PySem.Challenge.pw_pulsewright_k46_rules_as_texts K mg C fI cc cda "row")
    (lk : K.lookup fI = some ⟨oc, od, .func (PySem.W.ksFn "__init__" "BadText.__init__" (defArgs sI1) (defBody sI1) (defScope sI1) .none kV doc pm an (.ref cda) ct cc), osl⟩) (hcd : PySem.W.codeIn K (.ref cda) "BadText.__init__" = true)
    (gC : mg "BadText" = some (.ref C)) (iC : PySem.W.findIn K (.ref C) "__init__" = some (some (.ref fI))) (tI : PySem.W.typeIn K (.ref fI) = some (.type "function")) :
    ErrOk PySem.Challenge.pw_pulsewright_k46_rules_as_texts w K mg base "BadText" "row" C okZero := by
  refine ⟨T.oex, gC, fI, _, fn_sup (k := 0) (by decide) (by decide) (by decide) (by decide) (by decide) T rfl lk hcd (fun X hN hS => ?_) (fun env => rfl), Binds.all (fun us hl => match us, hl with | [_, _], _ => rfl), iC, tI⟩
  have h1 : X.N[1]? = some (Str.ofString "row") := by
    rw [hN]
    rfl
  have h2 : Vis X.env.scope (Str.ofString "row") := by
    rw [hS]
    exact .inl rfl
  refine ⟨_, pe_joined (PJ.cons pe_str (PJ.cons (pe_fmt (pe_var (i := 1) h1 h2)) (PJ.cons pe_str PJ.nil))), fun a v H Q hv hq => ?_⟩
  obtain rfl : v = .int 0 := hv
  refine ⟨_, rfl, by decide, _, rfl, .inr ⟨(0 : Int), rfl, by decide, _, rfl, ?_, _, rfl, ?_, hq _⟩⟩
  · decide +kernel
  · decide +kernel
theorem err_textH {C fI cc cda : Addr} {kV doc pm ct oc : Value} {an od : Option Addr} {osl : Array (Option Value)} (T : SupC PySem.Challenge.pw_pulsewright_k46_rules_as_texts K mg C fI cc cda "row")
    (lk : K.lookup fI = some ⟨oc, od, .func (PySem.W.ksFn "__init__" "BadText.__init__" (defArgs sI1) (defBody sI1) (defScope sI1) .none kV doc pm an (.ref cda) ct cc), osl⟩) (hcd : PySem.W.codeIn K (.ref cda) "BadText.__init__" = true)
    (gC : mg "BadText" = some (.ref C)) (iC : PySem.W.findIn K (.ref C) "__init__" = some (some (.ref fI))) (tI : PySem.W.typeIn K (.ref fI) = some (.type "function")) :
    ErrH PySem.Challenge.pw_pulsewright_k46_rules_as_texts w K mg base "BadText" "row" C okZero := by
  refine ⟨T.oex, gC, fI, _, fn_supH (k := 0) (by decide) (by decide) (by decide) (by decide) (by decide) T rfl lk hcd (fun X hN hS => ?_) (fun env => rfl), Binds.all (fun us hl => match us, hl with | [_, _], _ => rfl), iC, tI⟩
  have h1 : X.N[1]? = some (Str.ofString "row") := by
    rw [hN]
    rfl
  have h2 : Vis X.env.scope (Str.ofString "row") := by
    rw [hS]
    exact .inl rfl
  refine ⟨_, pe_joined (PJ.cons pe_str (PJ.cons (pe_fmt (pe_var (i := 1) h1 h2)) (PJ.cons pe_str PJ.nil))), fun a v H Q hv hq => ?_⟩
  obtain rfl : v = .int 0 := hv
  refine ⟨_, rfl, by decide, _, rfl, .inr ⟨(0 : Int), rfl, by decide, _, rfl, ?_, _, rfl, ?_, hq _⟩⟩
  · decide +kernel
  · decide +kernel
end
section
variable {w : World} {K : PySem.W.Frag} {mg : Str → Option Value} {base : Heap}
/-! BadRule's __init__ -/
abbrev sI2 : Stmt := inClass (topS 3) 0
theorem err_rule {C fI cc cda : Addr} {kV doc pm ct oc : Value} {an od : Option Addr} {osl : Array (Option Value)} (T : SupC PySem.Challenge.pw_pulsewright_k46_rules_as_texts K mg C fI cc cda "part")
    (lk : K.lookup fI = some ⟨oc, od, .func (PySem.W.ksFn "__init__" "BadRule.__init__" (defArgs sI2) (defBody sI2) (defScope sI2) .none kV doc pm an (.ref cda) ct cc), osl⟩) (hcd : PySem.W.codeIn K (.ref cda) "BadRule.__init__" = true)
    (gC : mg "BadRule" = some (.ref C)) (iC : PySem.W.findIn K (.ref C) "__init__" = some (some (.ref fI))) (tI : PySem.W.typeIn K (.ref fI) = some (.type "function")) :
    ErrOk PySem.Challenge.pw_pulsewright_k46_rules_as_texts w K mg base "BadRule" "part" C okStr := by
  refine ⟨T.oex, gC, fI, _, fn_sup (k := 0) (by decide) (by decide) (by decide) (by decide) (by decide) T rfl lk hcd (fun X hN hS => ?_) (fun env => rfl), Binds.all (fun us hl => match us, hl with | [_, _], _ => rfl), iC, tI⟩
  have h1 : X.N[1]? = some (Str.ofString "part") := by
    rw [hN]
    rfl
  have h2 : Vis X.env.scope (Str.ofString "part") := by
    rw [hS]
    exact .inl rfl
  refine ⟨_, pe_joined (PJ.cons pe_str (PJ.cons (pe_fmt (pe_var (i := 1) h1 h2)) PJ.nil)), fun a v H Q hv hq => ?_⟩
  obtain ⟨s, rfl, hs⟩ := hv
  refine ⟨_, rfl, by decide, _, rfl, .inl ⟨s, rfl, by rw [len_tl]; exact Nat.le_trans hs (by decide), _, rfl, ?_, hq _⟩⟩
  rw [len_tl, tl_append, List.length_append, ← len_tl]
  exact Nat.le_trans (Nat.add_le_add (by decide : _ ≤ 40) hs) (by decide)
end
theorem exm_own {K : PySem.W.Frag} {S : Addr} (h1 : PySem.W.subIn K (.ref S) (.type "BaseException") = some true) (h2 : PySem.W.isClsIn K S = true) (h3 : PySem.W.typeIn K (.ref S) = some (.type "type")) (h4 : PySem.W.subIn K (.ref S) (.ref S) = some true) : PySem.W.exmOne K (.ref S) (.ref S) = some true := by
  have a1 : (PySem.W.subIn K (.ref S) (.type "BaseException") == some true) = true := by rw [h1] <;> rfl
  have a2 : ((PySem.W.clsIn K S).isSome && PySem.W.typeIn K (.ref S) == some (.type "type")) = true := by
    have a3 : (PySem.W.clsIn K S).isSome = true := h2
    rw [a3, h3] <;> rfl
  unfold PySem.W.exmOne
  first
    | (rw [if_pos a1]; show (if ((PySem.W.clsIn K S).isSome && PySem.W.typeIn K (.ref S) == some (.type "type")) = true then PySem.W.subIn K (.ref S) (.ref S) else none) = some true; rw [if_pos a2]; exact h4)
    | simp [a1, a2, h4]
theorem all_mk {w : World} {K : PySem.W.Frag} {h : Heap} {mg : Str → Option Value} {fa : Addr} (X : K.In h) (G : h.Ns mainGlobals mg) (hfa : mg "law" = some (.ref fa))
    {fFS fIW fAW fCP fNT fWT fRN fRW fRS fRR fRM fRB fRT2 fUT fRE fOP fPU fNU fLK fRO fBA fWD fWS fPA fRL fFA fRU fOD fSR fRT fPT fTX fNI fPI fPP fBN fTO fLW fMW fML fMH fMS fEQ fST fRI C fI cc cda Cx fIx ccx cdax c Pt DR R Td TF : Addr}
    {odFS anFS odIW anIW odAW anAW odCP anCP odNT anNT odWT anWT odRN anRN odRW anRW odRS anRS odRR anRR odRM anRM odRB anRB odRT2 anRT2 odUT anUT odRE anRE odOP anOP odPU anPU odNU anNU odLK anLK odRO anRO odBA anBA odWD anWD odWS anWS odPA anPA odRL anRL odFA anFA odRU anRU odOD anOD odSR anSR odRT anRT odPT anPT odTX anTX odNI anNI odPI anPI odPP anPP odBN anBN odTO anTO odLW anLW odMW anMW odML anML odMH anMH odMS anMS odEQ anEQ odST anST odRI anRI odI anI cdd cld dd odIx anIx cddx cldx ddx odT oTF : Option Addr} {slFS slIW slAW slCP slNT slWT slRN slRW slRS slRR slRM slRB slRT2 slUT slRE slOP slPU slNU slLK slRO slBA slWD slWS slPA slRL slFA slRU slOD slSR slRT slPT slTX slNI slPI slPP slBN slTO slLW slMW slML slMH slMS slEQ slST slRI slI ccs csl slIx ccsx cslx slT slTF : Array (Option Value)}
    {ocFS kVFS dcFS pmFS ctFS ocIW kVIW dcIW pmIW ctIW ocAW kVAW dcAW pmAW ctAW ocCP kVCP dcCP pmCP ctCP ocNT kVNT dcNT pmNT ctNT ocWT kVWT dcWT pmWT ctWT ocRN kVRN dcRN pmRN ctRN ocRW kVRW dcRW pmRW ctRW ocRS kVRS dcRS pmRS ctRS ocRR kVRR dcRR pmRR ctRR ocRM kVRM dcRM pmRM ctRM ocRB kVRB dcRB pmRB ctRB ocRT2 kVRT2 dcRT2 pmRT2 ctRT2 ocUT kVUT dcUT pmUT ctUT ocRE kVRE dcRE pmRE ctRE ocOP kVOP dcOP pmOP ctOP ocPU kVPU dcPU pmPU ctPU ocNU kVNU dcNU pmNU ctNU ocLK kVLK dcLK pmLK ctLK ocRO kVRO dcRO pmRO ctRO ocBA kVBA dcBA pmBA ctBA ocWD kVWD dcWD pmWD ctWD ocWS kVWS dcWS pmWS ctWS ocPA kVPA dcPA pmPA ctPA ocRL kVRL dcRL pmRL ctRL ocFA kVFA dcFA pmFA ctFA ocRU kVRU dcRU pmRU ctRU ocOD kVOD dcOD pmOD ctOD ocSR kVSR dcSR pmSR ctSR ocRT kVRT dcRT pmRT ctRT ocPT kVPT dcPT pmPT ctPT ocTX kVTX dcTX pmTX ctTX ocNI kVNI dcNI pmNI ctNI ocPI kVPI dcPI pmPI ctPI ocPP kVPP dcPP pmPP ctPP ocBN kVBN dcBN pmBN ctBN ocTO kVTO dcTO pmTO ctTO ocLW kVLW dcLW pmLW ctLW ocMW kVMW dcMW pmMW ctMW ocML kVML dcML pmML ctML ocMH kVMH dcMH pmMH ctMH ocMS kVMS dcMS pmMS ctMS ocEQ kVEQ dcEQ pmEQ ctEQ ocST kVST dcST pmST ctST ocRI kVRI dcRI pmRI ctRI cdFS cdIW cdAW cdCP cdNT cdWT cdRN cdRW cdRS cdRR cdRM cdRB cdRT2 cdUT cdRE cdOP cdPU cdNU cdLK cdRO cdBA cdWD cdWS cdPA cdRL cdFA cdRU cdOD cdSR cdRT cdPT cdTX cdNI cdPI cdPP cdBN cdTO cdMW cdML cdMH cdMS cdEQ cdST cdRI ocI kVI dcI pmI ctI ccl cl ocIx kVIx dcIx pmIx ctIx cclx clx ocT : Value}
    {nm q file : Str} {N : Addr} {bs bm sub : List Value} {sn : List Str} {ab : Bool} {col : Option Bool} {k0 k1 k2 k3 k5 : Option Value} {vsc : Array Value} {tf : Tok}
    {nmx qx filex : Str} {Nx : Addr} {bsx bmx subx : List Value} {snx : List Str} {abx : Bool} {colx : Option Bool} {k0x k1x k2x k3x k5x : Option Value} {vscx : Array Value} {tfx : Tok}
    {tkN tkF tk0 tk1 tk2 tk3 tk4 tk5 tk6 u0 u1 u2 u3 : Tok} {esR : Array DictEntry} {nR nT nTF : Nat}
    (aFS : PySem.W.nsIn K mainGlobals "first_stranger" = some (some (.ref fFS)))
    (lFS : K.lookup fFS = some ⟨ocFS, odFS, .func (PySem.W.fnOf "first_stranger" "first_stranger" (defArgs sFS) (defBody sFS) (defScope sFS) .none kVFS dcFS pmFS anFS cdFS ctFS), slFS⟩)
    (cFS : PySem.W.codeIn K cdFS "first_stranger" = true)
    (kFS : PySem.W.keepIn K (.ref fFS) = true)
    (aIW : PySem.W.nsIn K mainGlobals "is_word" = some (some (.ref fIW)))
    (lIW : K.lookup fIW = some ⟨ocIW, odIW, .func (PySem.W.fnOf "is_word" "is_word" (defArgs sIW) (defBody sIW) (defScope sIW) .none kVIW dcIW pmIW anIW cdIW ctIW), slIW⟩)
    (cIW : PySem.W.codeIn K cdIW "is_word" = true)
    (kIW : PySem.W.keepIn K (.ref fIW) = true)
    (aAW : PySem.W.nsIn K mainGlobals "are_words" = some (some (.ref fAW)))
    (lAW : K.lookup fAW = some ⟨ocAW, odAW, .func (PySem.W.fnOf "are_words" "are_words" (defArgs sAW) (defBody sAW) (defScope sAW) .none kVAW dcAW pmAW anAW cdAW ctAW), slAW⟩)
    (cAW : PySem.W.codeIn K cdAW "are_words" = true)
    (kAW : PySem.W.keepIn K (.ref fAW) = true)
    (aCP : PySem.W.nsIn K mainGlobals "check_parts" = some (some (.ref fCP)))
    (lCP : K.lookup fCP = some ⟨ocCP, odCP, .func (PySem.W.fnOf "check_parts" "check_parts" (defArgs sCP) (defBody sCP) (defScope sCP) .none kVCP dcCP pmCP anCP cdCP ctCP), slCP⟩)
    (cCP : PySem.W.codeIn K cdCP "check_parts" = true)
    (kCP : PySem.W.keepIn K (.ref fCP) = true)
    (aNT : PySem.W.nsIn K mainGlobals "number_text" = some (some (.ref fNT)))
    (lNT : K.lookup fNT = some ⟨ocNT, odNT, .func (PySem.W.fnOf "number_text" "number_text" (defArgs sNT) (defBody sNT) (defScope sNT) .none kVNT dcNT pmNT anNT cdNT ctNT), slNT⟩)
    (cNT : PySem.W.codeIn K cdNT "number_text" = true)
    (kNT : PySem.W.keepIn K (.ref fNT) = true)
    (aWT : PySem.W.nsIn K mainGlobals "words_text" = some (some (.ref fWT)))
    (lWT : K.lookup fWT = some ⟨ocWT, odWT, .func (PySem.W.fnOf "words_text" "words_text" (defArgs sWT) (defBody sWT) (defScope sWT) .none kVWT dcWT pmWT anWT cdWT ctWT), slWT⟩)
    (cWT : PySem.W.codeIn K cdWT "words_text" = true)
    (kWT : PySem.W.keepIn K (.ref fWT) = true)
    (aRN : PySem.W.nsIn K mainGlobals "read_name" = some (some (.ref fRN)))
    (lRN : K.lookup fRN = some ⟨ocRN, odRN, .func (PySem.W.fnOf "read_name" "read_name" (defArgs sRN) (defBody sRN) (defScope sRN) .none kVRN dcRN pmRN anRN cdRN ctRN), slRN⟩)
    (cRN : PySem.W.codeIn K cdRN "read_name" = true)
    (kRN : PySem.W.keepIn K (.ref fRN) = true)
    (aRW : PySem.W.nsIn K mainGlobals "read_word" = some (some (.ref fRW)))
    (lRW : K.lookup fRW = some ⟨ocRW, odRW, .func (PySem.W.fnOf "read_word" "read_word" (defArgs sRW) (defBody sRW) (defScope sRW) .none kVRW dcRW pmRW anRW cdRW ctRW), slRW⟩)
    (cRW : PySem.W.codeIn K cdRW "read_word" = true)
    (kRW : PySem.W.keepIn K (.ref fRW) = true)
    (aRS : PySem.W.nsIn K mainGlobals "read_words" = some (some (.ref fRS)))
    (lRS : K.lookup fRS = some ⟨ocRS, odRS, .func (PySem.W.fnOf "read_words" "read_words" (defArgs sRS) (defBody sRS) (defScope sRS) .none kVRS dcRS pmRS anRS cdRS ctRS), slRS⟩)
    (cRS : PySem.W.codeIn K cdRS "read_words" = true)
    (kRS : PySem.W.keepIn K (.ref fRS) = true)
    (aRR : PySem.W.nsIn K mainGlobals "read_row" = some (some (.ref fRR)))
    (lRR : K.lookup fRR = some ⟨ocRR, odRR, .func (PySem.W.fnOf "read_row" "read_row" (defArgs sRR) (defBody sRR) (defScope sRR) .none kVRR dcRR pmRR anRR cdRR ctRR), slRR⟩)
    (cRR : PySem.W.codeIn K cdRR "read_row" = true)
    (kRR : PySem.W.keepIn K (.ref fRR) = true)
    (aRM : PySem.W.nsIn K mainGlobals "read_number" = some (some (.ref fRM)))
    (lRM : K.lookup fRM = some ⟨ocRM, odRM, .func (PySem.W.fnOf "read_number" "read_number" (defArgs sRM) (defBody sRM) (defScope sRM) .none kVRM dcRM pmRM anRM cdRM ctRM), slRM⟩)
    (cRM : PySem.W.codeIn K cdRM "read_number" = true)
    (kRM : PySem.W.keepIn K (.ref fRM) = true)
    (aRB : PySem.W.nsIn K mainGlobals "read_bound" = some (some (.ref fRB)))
    (lRB : K.lookup fRB = some ⟨ocRB, odRB, .func (PySem.W.fnOf "read_bound" "read_bound" (defArgs sRB) (defBody sRB) (defScope sRB) .none kVRB dcRB pmRB anRB cdRB ctRB), slRB⟩)
    (cRB : PySem.W.codeIn K cdRB "read_bound" = true)
    (kRB : PySem.W.keepIn K (.ref fRB) = true)
    (aRT2 : PySem.W.nsIn K mainGlobals "read_things" = some (some (.ref fRT2)))
    (lRT2 : K.lookup fRT2 = some ⟨ocRT2, odRT2, .func (PySem.W.fnOf "read_things" "read_things" (defArgs sRT2) (defBody sRT2) (defScope sRT2) .none kVRT2 dcRT2 pmRT2 anRT2 cdRT2 ctRT2), slRT2⟩)
    (cRT2 : PySem.W.codeIn K cdRT2 "read_things" = true)
    (kRT2 : PySem.W.keepIn K (.ref fRT2) = true)
    (aUT : PySem.W.nsIn K mainGlobals "rule_text" = some (some (.ref fUT)))
    (lUT : K.lookup fUT = some ⟨ocUT, odUT, .func (PySem.W.fnOf "rule_text" "rule_text" (defArgs sUT) (defBody sUT) (defScope sUT) .none kVUT dcUT pmUT anUT cdUT ctUT), slUT⟩)
    (cUT : PySem.W.codeIn K cdUT "rule_text" = true)
    (kUT : PySem.W.keepIn K (.ref fUT) = true)
    (aRE : PySem.W.nsIn K mainGlobals "read_rule" = some (some (.ref fRE)))
    (lRE : K.lookup fRE = some ⟨ocRE, odRE, .func (PySem.W.fnOf "read_rule" "read_rule" (defArgs sRE) (defBody sRE) (defScope sRE) .none kVRE dcRE pmRE anRE cdRE ctRE), slRE⟩)
    (cRE : PySem.W.codeIn K cdRE "read_rule" = true)
    (kRE : PySem.W.keepIn K (.ref fRE) = true)
    (aOP : PySem.W.nsIn K mainGlobals "_law_open" = some (some (.ref fOP)))
    (lOP : K.lookup fOP = some ⟨ocOP, odOP, .func (PySem.W.fnOf "_law_open" "_law_open" (defArgs sOP) (defBody sOP) (defScope sOP) .none kVOP dcOP pmOP anOP cdOP ctOP), slOP⟩)
    (cOP : PySem.W.codeIn K cdOP "_law_open" = true)
    (kOP : PySem.W.keepIn K (.ref fOP) = true)
    (aPU : PySem.W.nsIn K mainGlobals "_law_pull" = some (some (.ref fPU)))
    (lPU : K.lookup fPU = some ⟨ocPU, odPU, .func (PySem.W.fnOf "_law_pull" "_law_pull" (defArgs sPU) (defBody sPU) (defScope sPU) .none kVPU dcPU pmPU anPU cdPU ctPU), slPU⟩)
    (cPU : PySem.W.codeIn K cdPU "_law_pull" = true)
    (kPU : PySem.W.keepIn K (.ref fPU) = true)
    (aNU : PySem.W.nsIn K mainGlobals "_law_num" = some (some (.ref fNU)))
    (lNU : K.lookup fNU = some ⟨ocNU, odNU, .func (PySem.W.fnOf "_law_num" "_law_num" (defArgs sNU) (defBody sNU) (defScope sNU) .none kVNU dcNU pmNU anNU cdNU ctNU), slNU⟩)
    (cNU : PySem.W.codeIn K cdNU "_law_num" = true)
    (kNU : PySem.W.keepIn K (.ref fNU) = true)
    (aLK : PySem.W.nsIn K mainGlobals "_law_like" = some (some (.ref fLK)))
    (lLK : K.lookup fLK = some ⟨ocLK, odLK, .func (PySem.W.fnOf "_law_like" "_law_like" (defArgs sLK) (defBody sLK) (defScope sLK) .none kVLK dcLK pmLK anLK cdLK ctLK), slLK⟩)
    (cLK : PySem.W.codeIn K cdLK "_law_like" = true)
    (kLK : PySem.W.keepIn K (.ref fLK) = true)
    (aRO : PySem.W.nsIn K mainGlobals "_law_row" = some (some (.ref fRO)))
    (lRO : K.lookup fRO = some ⟨ocRO, odRO, .func (PySem.W.fnOf "_law_row" "_law_row" (defArgs sRO) (defBody sRO) (defScope sRO) .none kVRO dcRO pmRO anRO cdRO ctRO), slRO⟩)
    (cRO : PySem.W.codeIn K cdRO "_law_row" = true)
    (kRO : PySem.W.keepIn K (.ref fRO) = true)
    (aBA : PySem.W.nsIn K mainGlobals "_law_bad_at" = some (some (.ref fBA)))
    (lBA : K.lookup fBA = some ⟨ocBA, odBA, .func (PySem.W.fnOf "_law_bad_at" "_law_bad_at" (defArgs sBA) (defBody sBA) (defScope sBA) .none kVBA dcBA pmBA anBA cdBA ctBA), slBA⟩)
    (cBA : PySem.W.codeIn K cdBA "_law_bad_at" = true)
    (kBA : PySem.W.keepIn K (.ref fBA) = true)
    (aWD : PySem.W.nsIn K mainGlobals "_law_word" = some (some (.ref fWD)))
    (lWD : K.lookup fWD = some ⟨ocWD, odWD, .func (PySem.W.fnOf "_law_word" "_law_word" (defArgs sWD) (defBody sWD) (defScope sWD) .none kVWD dcWD pmWD anWD cdWD ctWD), slWD⟩)
    (cWD : PySem.W.codeIn K cdWD "_law_word" = true)
    (kWD : PySem.W.keepIn K (.ref fWD) = true)
    (aWS : PySem.W.nsIn K mainGlobals "_law_words" = some (some (.ref fWS)))
    (lWS : K.lookup fWS = some ⟨ocWS, odWS, .func (PySem.W.fnOf "_law_words" "_law_words" (defArgs sWS) (defBody sWS) (defScope sWS) .none kVWS dcWS pmWS anWS cdWS ctWS), slWS⟩)
    (cWS : PySem.W.codeIn K cdWS "_law_words" = true)
    (kWS : PySem.W.keepIn K (.ref fWS) = true)
    (aPA : PySem.W.nsIn K mainGlobals "_law_parts" = some (some (.ref fPA)))
    (lPA : K.lookup fPA = some ⟨ocPA, odPA, .func (PySem.W.fnOf "_law_parts" "_law_parts" (defArgs sPA) (defBody sPA) (defScope sPA) .none kVPA dcPA pmPA anPA cdPA ctPA), slPA⟩)
    (cPA : PySem.W.codeIn K cdPA "_law_parts" = true)
    (kPA : PySem.W.keepIn K (.ref fPA) = true)
    (aRL : PySem.W.nsIn K mainGlobals "_law_rule" = some (some (.ref fRL)))
    (lRL : K.lookup fRL = some ⟨ocRL, odRL, .func (PySem.W.fnOf "_law_rule" "_law_rule" (defArgs sRL) (defBody sRL) (defScope sRL) .none kVRL dcRL pmRL anRL cdRL ctRL), slRL⟩)
    (cRL : PySem.W.codeIn K cdRL "_law_rule" = true)
    (kRL : PySem.W.keepIn K (.ref fRL) = true)
    (aFA : PySem.W.nsIn K mainGlobals "_law_far" = some (some (.ref fFA)))
    (lFA : K.lookup fFA = some ⟨ocFA, odFA, .func (PySem.W.fnOf "_law_far" "_law_far" (defArgs sFA) (defBody sFA) (defScope sFA) .none kVFA dcFA pmFA anFA cdFA ctFA), slFA⟩)
    (cFA : PySem.W.codeIn K cdFA "_law_far" = true)
    (kFA : PySem.W.keepIn K (.ref fFA) = true)
    (aRU : PySem.W.nsIn K mainGlobals "_law_rule_word" = some (some (.ref fRU)))
    (lRU : K.lookup fRU = some ⟨ocRU, odRU, .func (PySem.W.fnOf "_law_rule_word" "_law_rule_word" (defArgs sRU) (defBody sRU) (defScope sRU) .none kVRU dcRU pmRU anRU cdRU ctRU), slRU⟩)
    (cRU : PySem.W.codeIn K cdRU "_law_rule_word" = true)
    (kRU : PySem.W.keepIn K (.ref fRU) = true)
    (aOD : PySem.W.nsIn K mainGlobals "_law_odd_parts" = some (some (.ref fOD)))
    (lOD : K.lookup fOD = some ⟨ocOD, odOD, .func (PySem.W.fnOf "_law_odd_parts" "_law_odd_parts" (defArgs sOD) (defBody sOD) (defScope sOD) .none kVOD dcOD pmOD anOD cdOD ctOD), slOD⟩)
    (cOD : PySem.W.codeIn K cdOD "_law_odd_parts" = true)
    (kOD : PySem.W.keepIn K (.ref fOD) = true)
    (aSR : PySem.W.nsIn K mainGlobals "_law_same_rule" = some (some (.ref fSR)))
    (lSR : K.lookup fSR = some ⟨ocSR, odSR, .func (PySem.W.fnOf "_law_same_rule" "_law_same_rule" (defArgs sSR) (defBody sSR) (defScope sSR) .none kVSR dcSR pmSR anSR cdSR ctSR), slSR⟩)
    (cSR : PySem.W.codeIn K cdSR "_law_same_rule" = true)
    (kSR : PySem.W.keepIn K (.ref fSR) = true)
    (aRT : PySem.W.nsIn K mainGlobals "_law_rule_text" = some (some (.ref fRT)))
    (lRT : K.lookup fRT = some ⟨ocRT, odRT, .func (PySem.W.fnOf "_law_rule_text" "_law_rule_text" (defArgs sRT) (defBody sRT) (defScope sRT) .none kVRT dcRT pmRT anRT cdRT ctRT), slRT⟩)
    (cRT : PySem.W.codeIn K cdRT "_law_rule_text" = true)
    (kRT : PySem.W.keepIn K (.ref fRT) = true)
    (aPT : PySem.W.nsIn K mainGlobals "_law_part_text" = some (some (.ref fPT)))
    (lPT : K.lookup fPT = some ⟨ocPT, odPT, .func (PySem.W.fnOf "_law_part_text" "_law_part_text" (defArgs sPT) (defBody sPT) (defScope sPT) .none kVPT dcPT pmPT anPT cdPT ctPT), slPT⟩)
    (cPT : PySem.W.codeIn K cdPT "_law_part_text" = true)
    (kPT : PySem.W.keepIn K (.ref fPT) = true)
    (aTX : PySem.W.nsIn K mainGlobals "_law_text_of" = some (some (.ref fTX)))
    (lTX : K.lookup fTX = some ⟨ocTX, odTX, .func (PySem.W.fnOf "_law_text_of" "_law_text_of" (defArgs sTX) (defBody sTX) (defScope sTX) .none kVTX dcTX pmTX anTX cdTX ctTX), slTX⟩)
    (cTX : PySem.W.codeIn K cdTX "_law_text_of" = true)
    (kTX : PySem.W.keepIn K (.ref fTX) = true)
    (aNI : PySem.W.nsIn K mainGlobals "_law_number_in" = some (some (.ref fNI)))
    (lNI : K.lookup fNI = some ⟨ocNI, odNI, .func (PySem.W.fnOf "_law_number_in" "_law_number_in" (defArgs sNI) (defBody sNI) (defScope sNI) .none kVNI dcNI pmNI anNI cdNI ctNI), slNI⟩)
    (cNI : PySem.W.codeIn K cdNI "_law_number_in" = true)
    (kNI : PySem.W.keepIn K (.ref fNI) = true)
    (aPI : PySem.W.nsIn K mainGlobals "_law_part_in" = some (some (.ref fPI)))
    (lPI : K.lookup fPI = some ⟨ocPI, odPI, .func (PySem.W.fnOf "_law_part_in" "_law_part_in" (defArgs sPI) (defBody sPI) (defScope sPI) .none kVPI dcPI pmPI anPI cdPI ctPI), slPI⟩)
    (cPI : PySem.W.codeIn K cdPI "_law_part_in" = true)
    (kPI : PySem.W.keepIn K (.ref fPI) = true)
    (aPP : PySem.W.nsIn K mainGlobals "_law_parts_in" = some (some (.ref fPP)))
    (lPP : K.lookup fPP = some ⟨ocPP, odPP, .func (PySem.W.fnOf "_law_parts_in" "_law_parts_in" (defArgs sPP) (defBody sPP) (defScope sPP) .none kVPP dcPP pmPP anPP cdPP ctPP), slPP⟩)
    (cPP : PySem.W.codeIn K cdPP "_law_parts_in" = true)
    (kPP : PySem.W.keepIn K (.ref fPP) = true)
    (aBN : PySem.W.nsIn K mainGlobals "_law_bent_text" = some (some (.ref fBN)))
    (lBN : K.lookup fBN = some ⟨ocBN, odBN, .func (PySem.W.fnOf "_law_bent_text" "_law_bent_text" (defArgs sBN) (defBody sBN) (defScope sBN) .none kVBN dcBN pmBN anBN cdBN ctBN), slBN⟩)
    (cBN : PySem.W.codeIn K cdBN "_law_bent_text" = true)
    (kBN : PySem.W.keepIn K (.ref fBN) = true)
    (aTO : PySem.W.nsIn K mainGlobals "_law_text_told" = some (some (.ref fTO)))
    (lTO : K.lookup fTO = some ⟨ocTO, odTO, .func (PySem.W.fnOf "_law_text_told" "_law_text_told" (defArgs sTO) (defBody sTO) (defScope sTO) .none kVTO dcTO pmTO anTO cdTO ctTO), slTO⟩)
    (cTO : PySem.W.codeIn K cdTO "_law_text_told" = true)
    (kTO : PySem.W.keepIn K (.ref fTO) = true)
    (aLW : PySem.W.nsIn K mainGlobals "law" = some (some (.ref fLW)))
    (lLW : K.lookup fLW = some ⟨ocLW, odLW, .func (PySem.W.fnOf "law" "law" (defArgs sLW) (defBody sLW) (defScope sLW) .none kVLW dcLW pmLW anLW (.ref c) ctLW), slLW⟩)
    (cLW : PySem.W.codeIn K (.ref c) "law" = true)
    (kLW : PySem.W.keepIn K (.ref fLW) = true)
    (z_isi : PySem.W.nsIn K mainGlobals "isinstance" = some none)
    (z_int : PySem.W.nsIn K mainGlobals "int" = some none)
    (z_bool : PySem.W.nsIn K mainGlobals "bool" = some none)
    (z_str : PySem.W.nsIn K mainGlobals "str" = some none)
    (z_tup : PySem.W.nsIn K mainGlobals "tuple" = some none)
    (z_lst : PySem.W.nsIn K mainGlobals "list" = some none)
    (z_len : PySem.W.nsIn K mainGlobals "len" = some none)
    (z_all : PySem.W.nsIn K mainGlobals "all" = some none)
    (z_rng : PySem.W.nsIn K mainGlobals "range" = some none)
    (z_max : PySem.W.nsIn K mainGlobals "max" = some none)
    (z_min : PySem.W.nsIn K mainGlobals "min" = some none)
    (z_abs : PySem.W.nsIn K mainGlobals "abs" = some none)
    (z_enu : PySem.W.nsIn K mainGlobals "enumerate" = some none)
    (z_sup : PySem.W.nsIn K mainGlobals "super" = some none)
    (z_any : PySem.W.nsIn K mainGlobals "any" = some none)
    (z_zip : PySem.W.nsIn K mainGlobals "zip" = some none)
    (z_set : PySem.W.nsIn K mainGlobals "set" = some none)
    (z_srt : PySem.W.nsIn K mainGlobals "sorted" = some none)
    (n1 : PySem.W.nsIn K mainGlobals "MOST_WORDS" = some (some (.int 6 tk1)))
    (n2 : PySem.W.nsIn K mainGlobals "LONGEST_WORD" = some (some (.int 5 tk2)))
    (n3 : PySem.W.nsIn K mainGlobals "GREATEST_LOW" = some (some (.int 3 tk3)))
    (n4 : PySem.W.nsIn K mainGlobals "GREATEST_HIGH" = some (some (.int 7 tk4)))
    (n5 : PySem.W.nsIn K mainGlobals "GREATEST_SPAN" = some (some (.int 4 tk5)))
    (n6 : PySem.W.nsIn K mainGlobals "MOST_FIGURES" = some (some (.int 6 tk6)))
    (nN : PySem.W.nsIn K mainGlobals "NONE" = some (some (.str "-" tkN)))
    (nF : PySem.W.nsIn K mainGlobals "FIGURES" = some (some (.str "0123456789" tkF)))
    (aTF : PySem.W.nsIn K mainGlobals "RULE_FORM" = some (some (.ref TF)))
    (lTF : K.lookup TF = some ⟨.type "tuple", oTF, .seq #[.str "words" u0, .str "number" u1, .str "bound" u2, .str "bound" u3] nTF, slTF⟩)
    (aDR : PySem.W.nsIn K mainGlobals "READERS" = some (some (.ref DR)))
    (dDR : K.lookup DR = some ⟨.type "dict", none, .dict esR nR, #[]⟩)
    (litR : PySem.W.KeysLit w.params esR.toList)
    (lowR : (DR == sysModules) = false)
    (r_name : PySem.W.nsIn K DR "name" = some (some (.ref fRN)))
    (r_word : PySem.W.nsIn K DR "word" = some (some (.ref fRW)))
    (r_words : PySem.W.nsIn K DR "words" = some (some (.ref fRS)))
    (r_row : PySem.W.nsIn K DR "row" = some (some (.ref fRR)))
    (r_number : PySem.W.nsIn K DR "number" = some (some (.ref fRM)))
    (r_bound : PySem.W.nsIn K DR "bound" = some (some (.ref fRB)))
    (aR : PySem.W.nsIn K mainGlobals "Rule" = some (some (.ref R)))
    (f_MW : PySem.W.findIn K (.ref R) "words" = some (some (.ref fMW)))
    (lMW : K.lookup fMW = some ⟨ocMW, odMW, .func (PySem.W.fnOf "words" "Rule.words" (defArgs sMW) (defBody sMW) (defScope sMW) .none kVMW dcMW pmMW anMW cdMW ctMW), slMW⟩)
    (cMW : PySem.W.codeIn K cdMW "Rule.words" = true)
    (i_MW : PySem.W.isFn K (.ref fMW) = true)
    (kMW : PySem.W.keepIn K (.ref fMW) = true)
    (f_ML : PySem.W.findIn K (.ref R) "low" = some (some (.ref fML)))
    (lML : K.lookup fML = some ⟨ocML, odML, .func (PySem.W.fnOf "low" "Rule.low" (defArgs sML) (defBody sML) (defScope sML) .none kVML dcML pmML anML cdML ctML), slML⟩)
    (cML : PySem.W.codeIn K cdML "Rule.low" = true)
    (i_ML : PySem.W.isFn K (.ref fML) = true)
    (kML : PySem.W.keepIn K (.ref fML) = true)
    (f_MH : PySem.W.findIn K (.ref R) "high" = some (some (.ref fMH)))
    (lMH : K.lookup fMH = some ⟨ocMH, odMH, .func (PySem.W.fnOf "high" "Rule.high" (defArgs sMH) (defBody sMH) (defScope sMH) .none kVMH dcMH pmMH anMH cdMH ctMH), slMH⟩)
    (cMH : PySem.W.codeIn K cdMH "Rule.high" = true)
    (i_MH : PySem.W.isFn K (.ref fMH) = true)
    (kMH : PySem.W.keepIn K (.ref fMH) = true)
    (f_MS : PySem.W.findIn K (.ref R) "span" = some (some (.ref fMS)))
    (lMS : K.lookup fMS = some ⟨ocMS, odMS, .func (PySem.W.fnOf "span" "Rule.span" (defArgs sMS) (defBody sMS) (defScope sMS) .none kVMS dcMS pmMS anMS cdMS ctMS), slMS⟩)
    (cMS : PySem.W.codeIn K cdMS "Rule.span" = true)
    (i_MS : PySem.W.isFn K (.ref fMS) = true)
    (kMS : PySem.W.keepIn K (.ref fMS) = true)
    (f_EQ : PySem.W.findIn K (.ref R) "__eq__" = some (some (.ref fEQ)))
    (lEQ : K.lookup fEQ = some ⟨ocEQ, odEQ, .func (PySem.W.fnOf "__eq__" "Rule.__eq__" (defArgs sEQ) (defBody sEQ) (defScope sEQ) .none kVEQ dcEQ pmEQ anEQ cdEQ ctEQ), slEQ⟩)
    (cEQ : PySem.W.codeIn K cdEQ "Rule.__eq__" = true)
    (i_EQ : PySem.W.isFn K (.ref fEQ) = true)
    (kEQ : PySem.W.keepIn K (.ref fEQ) = true)
    (f_ST : PySem.W.findIn K (.ref R) "__str__" = some (some (.ref fST)))
    (lST : K.lookup fST = some ⟨ocST, odST, .func (PySem.W.fnOf "__str__" "Rule.__str__" (defArgs sST) (defBody sST) (defScope sST) .none kVST dcST pmST anST cdST ctST), slST⟩)
    (cST : PySem.W.codeIn K cdST "Rule.__str__" = true)
    (i_ST : PySem.W.isFn K (.ref fST) = true)
    (kST : PySem.W.keepIn K (.ref fST) = true)
    (f_RI : PySem.W.findIn K (.ref R) "__init__" = some (some (.ref fRI)))
    (lRI : K.lookup fRI = some ⟨ocRI, odRI, .func (PySem.W.fnOf "__init__" "Rule.__init__" (defArgs sRI) (defBody sRI) (defScope sRI) (.ref Td) kVRI dcRI pmRI anRI cdRI ctRI), slRI⟩)
    (cRI : PySem.W.codeIn K cdRI "Rule.__init__" = true)
    (i_RI : PySem.W.isFn K (.ref fRI) = true)
    (kRI : PySem.W.keepIn K (.ref fRI) = true)
    (lTd : K.lookup Td = some ⟨ocT, odT, .seq #[.none, .int 0 tk0, .none, .none] nT, slT⟩)
    (mkR : PySem.W.makesIn K R = true)
    (kR : PySem.W.keepIn K (.ref R) = true)
    (pgR : PySem.W.plainGet K R Str.empty = true)
    (hdR : PySem.W.hasDictIn K R = true)
    (poR : PySem.W.plainOver K R = true)
    (saR : PySem.W.findIn K (.ref R) "__setattr__" = some (some (.builtin "object.__setattr__")))
    (na1 : PySem.W.findIn K (.ref R) "barred" = some none)
    (na2 : PySem.W.findIn K (.ref R) "least_gap" = some none)
    (na3 : PySem.W.findIn K (.ref R) "most_idle" = some none)
    (na4 : PySem.W.findIn K (.ref R) "most_swing" = some none)
    (aC : PySem.W.nsIn K mainGlobals "BadText" = some (some (.ref C)))
    (xC : K.lookup C = some (excClassObj nm q C N bs bm true sn sub ab col dd k0 k1 k2 k3 k5 "ValueError.__new__"))
    (xbm : PySem.HandSPX.refsVE bm = true)
    (sa : PySem.W.findIn K (.ref C) "__setattr__" = some (some (.builtin "object.__setattr__")))
    (ga : PySem.W.findIn K (.ref C) "__getattribute__" = some (some (.builtin "BaseException.__getattribute__")))
    (gg : PySem.W.findIn K (.ref C) "__getattr__" = some none)
    (nat : PySem.W.findIn K (.ref C) "row" = some none)
    (eC : PySem.W.subIn K (.ref C) (.type "BaseException") = some true)
    (vC : PySem.W.subIn K (.ref C) (.type "ValueError") = some true)
    (tC : PySem.W.typeIn K (.ref C) = some (.type "type"))
    (hC : PySem.W.hasDictIn K C = true)
    (iC : PySem.W.isClsIn K C = true)
    (sC : PySem.W.subIn K (.ref C) (.ref C) = some true)
    (mC : PySem.W.mroIn K C (.ref C) = some true)
    (kC : PySem.W.keepIn K (.ref C) = true)
    (aI : PySem.W.findIn K (.ref C) "__init__" = some (some (.ref fI)))
    (tI : PySem.W.typeIn K (.ref fI) = some (.type "function"))
    (lI : K.lookup fI = some ⟨ocI, odI, .func (PySem.W.ksFn "__init__" "BadText.__init__" (defArgs sI1) (defBody sI1) (defScope sI1) .none kVI dcI pmI anI (.ref cda) ctI cc), slI⟩)
    (cI : PySem.W.codeIn K (.ref cda) "BadText.__init__" = true)
    (lcd : K.lookup cda = some ⟨ccl, cdd, .fields vsc, ccs⟩)
    (lcc : K.lookup cc = some ⟨cl, cld, .cell (some (.ref C)), csl⟩)
    (sup : PySem.W.ks_superIn K C C "__init__" = some (some (.builtin "ValueError.__init__")))
    (vs2 : vsc[2]? = some (.str file tf))
    (fil : ((PySem.Challenge.pw_pulsewright_k46_rules_as_texts.main.file : Str) == file) = true)
    (aCx : PySem.W.nsIn K mainGlobals "BadRule" = some (some (.ref Cx)))
    (xCx : K.lookup Cx = some (excClassObj nmx qx Cx Nx bsx bmx true snx subx abx colx ddx k0x k1x k2x k3x k5x "ValueError.__new__"))
    (xbmx : PySem.HandSPX.refsVE bmx = true)
    (sax : PySem.W.findIn K (.ref Cx) "__setattr__" = some (some (.builtin "object.__setattr__")))
    (gax : PySem.W.findIn K (.ref Cx) "__getattribute__" = some (some (.builtin "BaseException.__getattribute__")))
    (ggx : PySem.W.findIn K (.ref Cx) "__getattr__" = some none)
    (natx : PySem.W.findIn K (.ref Cx) "part" = some none)
    (eCx : PySem.W.subIn K (.ref Cx) (.type "BaseException") = some true)
    (vCx : PySem.W.subIn K (.ref Cx) (.type "ValueError") = some true)
    (tCx : PySem.W.typeIn K (.ref Cx) = some (.type "type"))
    (hCx : PySem.W.hasDictIn K Cx = true)
    (iCx : PySem.W.isClsIn K Cx = true)
    (sCx : PySem.W.subIn K (.ref Cx) (.ref Cx) = some true)
    (mCx : PySem.W.mroIn K Cx (.ref Cx) = some true)
    (kCx : PySem.W.keepIn K (.ref Cx) = true)
    (aIx : PySem.W.findIn K (.ref Cx) "__init__" = some (some (.ref fIx)))
    (tIx : PySem.W.typeIn K (.ref fIx) = some (.type "function"))
    (lIx : K.lookup fIx = some ⟨ocIx, odIx, .func (PySem.W.ksFn "__init__" "BadRule.__init__" (defArgs sI2) (defBody sI2) (defScope sI2) .none kVIx dcIx pmIx anIx (.ref cdax) ctIx ccx), slIx⟩)
    (cIx : PySem.W.codeIn K (.ref cdax) "BadRule.__init__" = true)
    (lcdx : K.lookup cdax = some ⟨cclx, cddx, .fields vscx, ccsx⟩)
    (lccx : K.lookup ccx = some ⟨clx, cldx, .cell (some (.ref Cx)), cslx⟩)
    (supx : PySem.W.ks_superIn K Cx Cx "__init__" = some (some (.builtin "ValueError.__init__")))
    (vs2x : vscx[2]? = some (.str filex tfx))
    (filx : ((PySem.Challenge.pw_pulsewright_k46_rules_as_texts.main.file : Str) == filex) = true)
    (opq : PySem.W.nsIn K cStatics "thirdparty.any" = some none)
    (tps : (PySem.Challenge.pw_pulsewright_k46_rules_as_texts.main.scope.names.lookup ("super" : Str)).isSome = false)
    (icl : PySem.W.findIn K (.ref R) "__class__" = some (some (.builtin "object.__class__")))
    (icn : PySem.W.specialIn K (.builtin "object.__class__") "__get__" = some (some (.builtin "getset_descriptor.__get__")))
    (ict : PySem.W.takesIn K (.builtin "object.__class__") = some true)
    (icm : PySem.W.mroIn K R (.type "object") = some true)
    (tab : h.get? Pt = some { cls := .none, data := .fields #[] })
    (nPt : K.lookup Pt = none)
    (chd : PySem.W.codeHdIn K c Pt = true)
    : LamX.LawAtS PySem.Challenge.rw_pulsewright_k46_rules_as_texts w K CX0 10 63 "_law_script" mg fa h := by
  have e := hfa.symm.trans (PySem.W.mg_of X G aLW)
  cases e
  have B : BN mg := ⟨PySem.W.mg_none_of X G z_isi, PySem.W.mg_none_of X G z_int, PySem.W.mg_none_of X G z_bool, PySem.W.mg_none_of X G z_str, PySem.W.mg_none_of X G z_tup, PySem.W.mg_none_of X G z_lst, PySem.W.mg_none_of X G z_len, PySem.W.mg_none_of X G z_all, PySem.W.mg_none_of X G z_rng, PySem.W.mg_none_of X G z_max, PySem.W.mg_none_of X G z_min, PySem.W.mg_none_of X G z_abs, PySem.W.mg_none_of X G z_enu⟩
  have zany := PySem.W.mg_none_of X G z_any
  have zzip := PySem.W.mg_none_of X G z_zip
  have zset := PySem.W.mg_none_of X G z_set
  have zsrt := PySem.W.mg_none_of X G z_srt
  have N1 : Num mg "MOST_WORDS" 6 := ⟨_, PySem.W.mg_of X G n1, _, rfl⟩
  have N2 : Num mg "LONGEST_WORD" 5 := ⟨_, PySem.W.mg_of X G n2, _, rfl⟩
  have N3 : Num mg "GREATEST_LOW" 3 := ⟨_, PySem.W.mg_of X G n3, _, rfl⟩
  have N4 : Num mg "GREATEST_HIGH" 7 := ⟨_, PySem.W.mg_of X G n4, _, rfl⟩
  have N5 : Num mg "GREATEST_SPAN" 4 := ⟨_, PySem.W.mg_of X G n5, _, rfl⟩
  have N6 : Num mg "MOST_FIGURES" 6 := ⟨_, PySem.W.mg_of X G n6, _, rfl⟩
  have NN : TxtN mg "NONE" dash := ⟨_, PySem.W.mg_of X G nN, _, rfl⟩
  have NF : TxtN mg "FIGURES" figs := ⟨_, PySem.W.mg_of X G nF, _, rfl⟩
  have FFS := fun_mk (st := sFS) lFS cFS kFS
  have FIW := fun_mk (st := sIW) lIW cIW kIW
  have FAW := fun_mk (st := sAW) lAW cAW kAW
  have FCP := fun_mk (st := sCP) lCP cCP kCP
  have FNT := fun_mk (st := sNT) lNT cNT kNT
  have FWT := fun_mk (st := sWT) lWT cWT kWT
  have FRN := fun_mk (st := sRN) lRN cRN kRN
  have FRW := fun_mk (st := sRW) lRW cRW kRW
  have FRS := fun_mk (st := sRS) lRS cRS kRS
  have FRR := fun_mk (st := sRR) lRR cRR kRR
  have FRM := fun_mk (st := sRM) lRM cRM kRM
  have FRB := fun_mk (st := sRB) lRB cRB kRB
  have FRT2 := fun_mk (st := sRT2) lRT2 cRT2 kRT2
  have FUT := fun_mk (st := sUT) lUT cUT kUT
  have FRE := fun_mk (st := sRE) lRE cRE kRE
  have FOP := fun_mk (st := sOP) lOP cOP kOP
  have FPU := fun_mk (st := sPU) lPU cPU kPU
  have FNU := fun_mk (st := sNU) lNU cNU kNU
  have FLK := fun_mk (st := sLK) lLK cLK kLK
  have FRO := fun_mk (st := sRO) lRO cRO kRO
  have FBA := fun_mk (st := sBA) lBA cBA kBA
  have FWD := fun_mk (st := sWD) lWD cWD kWD
  have FWS := fun_mk (st := sWS) lWS cWS kWS
  have FPA := fun_mk (st := sPA) lPA cPA kPA
  have FRL := fun_mk (st := sRL) lRL cRL kRL
  have FFA := fun_mk (st := sFA) lFA cFA kFA
  have FRU := fun_mk (st := sRU) lRU cRU kRU
  have FOD := fun_mk (st := sOD) lOD cOD kOD
  have FSR := fun_mk (st := sSR) lSR cSR kSR
  have FRT := fun_mk (st := sRT) lRT cRT kRT
  have FPT := fun_mk (st := sPT) lPT cPT kPT
  have FTX := fun_mk (st := sTX) lTX cTX kTX
  have FNI := fun_mk (st := sNI) lNI cNI kNI
  have FPI := fun_mk (st := sPI) lPI cPI kPI
  have FPP := fun_mk (st := sPP) lPP cPP kPP
  have FBN := fun_mk (st := sBN) lBN cBN kBN
  have FMW := fun_mk (st := sMW) lMW cMW kMW
  have FML := fun_mk (st := sML) lML cML kML
  have FMH := fun_mk (st := sMH) lMH cMH kMH
  have FMS := fun_mk (st := sMS) lMS cMS kMS
  have FEQ := fun_mk (st := sEQ) lEQ cEQ kEQ
  have FST := fun_mk (st := sST) lST cST kST
  have bFS := FFS.binds (ps := ["text"]) fun _ _ _ _ _ _ us hl => match us, hl with | [_], _ => rfl
  have bIW := FIW.binds (ps := ["text"]) fun _ _ _ _ _ _ us hl => match us, hl with | [_], _ => rfl
  have bAW := FAW.binds (ps := ["texts"]) fun _ _ _ _ _ _ us hl => match us, hl with | [_], _ => rfl
  have bCP := FCP.binds (ps := ["words", "low", "high", "span"]) fun _ _ _ _ _ _ us hl => match us, hl with | [_, _, _, _], _ => rfl
  have bNT := FNT.binds (ps := ["number"]) fun _ _ _ _ _ _ us hl => match us, hl with | [_], _ => rfl
  have bWT := FWT.binds (ps := ["words"]) fun _ _ _ _ _ _ us hl => match us, hl with | [_], _ => rfl
  have bRN := FRN.binds (ps := ["text"]) fun _ _ _ _ _ _ us hl => match us, hl with | [_], _ => rfl
  have bRW := FRW.binds (ps := ["text"]) fun _ _ _ _ _ _ us hl => match us, hl with | [_], _ => rfl
  have bRS := FRS.binds (ps := ["text"]) fun _ _ _ _ _ _ us hl => match us, hl with | [_], _ => rfl
  have bRR := FRR.binds (ps := ["text"]) fun _ _ _ _ _ _ us hl => match us, hl with | [_], _ => rfl
  have bRM := FRM.binds (ps := ["text"]) fun _ _ _ _ _ _ us hl => match us, hl with | [_], _ => rfl
  have bRB := FRB.binds (ps := ["text"]) fun _ _ _ _ _ _ us hl => match us, hl with | [_], _ => rfl
  have bRT2 := FRT2.binds (ps := ["kinds", "texts"]) fun _ _ _ _ _ _ us hl => match us, hl with | [_, _], _ => rfl
  have bUT := FUT.binds (ps := ["rule"]) fun _ _ _ _ _ _ us hl => match us, hl with | [_], _ => rfl
  have bRE := FRE.binds (ps := ["text"]) fun _ _ _ _ _ _ us hl => match us, hl with | [_], _ => rfl
  have bOP := FOP.binds (ps := ["_law_script"]) fun _ _ _ _ _ _ us hl => match us, hl with | [_], _ => rfl
  have bPU := FPU.binds (ps := ["_law_draw", "_law_total_of"]) fun _ _ _ _ _ _ us hl => match us, hl with | [_, _], _ => rfl
  have bNU := FNU.binds (ps := ["_law_found"]) fun _ _ _ _ _ _ us hl => match us, hl with | [_], _ => rfl
  have bLK := FLK.binds (ps := ["_law_found", "_law_due"]) fun _ _ _ _ _ _ us hl => match us, hl with | [_, _], _ => rfl
  have bRO := FRO.binds (ps := ["_law_draw", "_law_many"]) fun _ _ _ _ _ _ us hl => match us, hl with | [_, _], _ => rfl
  have bBA := FBA.binds (ps := ["_law_text"]) fun _ _ _ _ _ _ us hl => match us, hl with | [_], _ => rfl
  have bWD := FWD.binds (ps := ["_law_draw"]) fun _ _ _ _ _ _ us hl => match us, hl with | [_], _ => rfl
  have bWS := FWS.binds (ps := ["_law_draw", "_law_most"]) fun _ _ _ _ _ _ us hl => match us, hl with | [_, _], _ => rfl
  have bPA := FPA.binds (ps := ["_law_draw"]) fun _ _ _ _ _ _ us hl => match us, hl with | [_], _ => rfl
  have bRL := FRL.binds (ps := ["_law_r"]) fun _ _ _ _ _ _ us hl => match us, hl with | [_], _ => rfl
  have bFA := FFA.binds (ps := ["_law_draw"]) fun _ _ _ _ _ _ us hl => match us, hl with | [_], _ => rfl
  have bRU := FRU.binds (ps := ["_law_r"]) fun _ _ _ _ _ _ us hl => match us, hl with | [_], _ => rfl
  have bOD := FOD.binds (ps := ["_law_draw"]) fun _ _ _ _ _ _ us hl => match us, hl with | [_], _ => rfl
  have bSR := FSR.binds (ps := ["_law_made", "_law_r"]) fun _ _ _ _ _ _ us hl => match us, hl with | [_, _], _ => rfl
  have bRT := FRT.binds (ps := ["_law_r"]) fun _ _ _ _ _ _ us hl => match us, hl with | [_], _ => rfl
  have bPT := FPT.binds (ps := ["_law_part"]) fun _ _ _ _ _ _ us hl => match us, hl with | [_], _ => rfl
  have bTX := FTX.binds (ps := ["_law_r"]) fun _ _ _ _ _ _ us hl => match us, hl with | [_], _ => rfl
  have bNI := FNI.binds (ps := ["_law_word_here"]) fun _ _ _ _ _ _ us hl => match us, hl with | [_], _ => rfl
  have bPI := FPI.binds (ps := ["_law_word_here", "_law_sort"]) fun _ _ _ _ _ _ us hl => match us, hl with | [_, _], _ => rfl
  have bPP := FPP.binds (ps := ["_law_some", "_law_form"]) fun _ _ _ _ _ _ us hl => match us, hl with | [_, _], _ => rfl
  have bBN := FBN.binds (ps := ["_law_draw", "_law_text"]) fun _ _ _ _ _ _ us hl => match us, hl with | [_, _], _ => rfl
  have bMW := FMW.binds (ps := ["self"]) fun _ _ _ _ _ _ us hl => match us, hl with | [_], _ => rfl
  have bML := FML.binds (ps := ["self"]) fun _ _ _ _ _ _ us hl => match us, hl with | [_], _ => rfl
  have bMH := FMH.binds (ps := ["self"]) fun _ _ _ _ _ _ us hl => match us, hl with | [_], _ => rfl
  have bMS := FMS.binds (ps := ["self"]) fun _ _ _ _ _ _ us hl => match us, hl with | [_], _ => rfl
  have bEQ := FEQ.binds (ps := ["self", "other"]) fun _ _ _ _ _ _ us hl => match us, hl with | [_, _], _ => rfl
  have bST := FST.binds (ps := ["self"]) fun _ _ _ _ _ _ us hl => match us, hl with | [_], _ => rfl
  have bTO : Binds K (PySem.W.fnOf "_law_text_told" "_law_text_told" (defArgs sTO) (defBody sTO) (defScope sTO) .none kVTO dcTO pmTO anTO cdTO ctTO) ["_law_ask"] [] := Binds.all (fun us hl => match us, hl with | [_], _ => rfl)
  have mFS := PySem.W.mg_of X G aFS
  have mIW := PySem.W.mg_of X G aIW
  have mAW := PySem.W.mg_of X G aAW
  have mCP := PySem.W.mg_of X G aCP
  have mNT := PySem.W.mg_of X G aNT
  have mWT := PySem.W.mg_of X G aWT
  have mRN := PySem.W.mg_of X G aRN
  have mRW := PySem.W.mg_of X G aRW
  have mRS := PySem.W.mg_of X G aRS
  have mRR := PySem.W.mg_of X G aRR
  have mRM := PySem.W.mg_of X G aRM
  have mRB := PySem.W.mg_of X G aRB
  have mRT2 := PySem.W.mg_of X G aRT2
  have mUT := PySem.W.mg_of X G aUT
  have mRE := PySem.W.mg_of X G aRE
  have mOP := PySem.W.mg_of X G aOP
  have mPU := PySem.W.mg_of X G aPU
  have mNU := PySem.W.mg_of X G aNU
  have mLK := PySem.W.mg_of X G aLK
  have mRO := PySem.W.mg_of X G aRO
  have mBA := PySem.W.mg_of X G aBA
  have mWD := PySem.W.mg_of X G aWD
  have mWS := PySem.W.mg_of X G aWS
  have mPA := PySem.W.mg_of X G aPA
  have mRL := PySem.W.mg_of X G aRL
  have mFA := PySem.W.mg_of X G aFA
  have mRU := PySem.W.mg_of X G aRU
  have mOD := PySem.W.mg_of X G aOD
  have mSR := PySem.W.mg_of X G aSR
  have mRT := PySem.W.mg_of X G aRT
  have mPT := PySem.W.mg_of X G aPT
  have mTX := PySem.W.mg_of X G aTX
  have mNI := PySem.W.mg_of X G aNI
  have mPI := PySem.W.mg_of X G aPI
  have mPP := PySem.W.mg_of X G aPP
  have mBN := PySem.W.mg_of X G aBN
  have mTO := PySem.W.mg_of X G aTO
  have mLW := PySem.W.mg_of X G aLW
  have oex : OexC K C := ⟨⟨nm, q, N, bs, bm, sn, sub, ab, col, dd, k0, k1, k2, k3, k5, xC, xbm⟩, sa, eC, tC, kC⟩
  have S1 : SupC PySem.Challenge.pw_pulsewright_k46_rules_as_texts K mg C fI cc cda "row" := ⟨oex, nat, mC, vC, sup, opq, ⟨ccl, cdd, vsc, ccs, file, tf, lcd, vs2, fil⟩, ⟨cl, cld, csl, lcc⟩, PySem.W.mg_none_of X G z_sup, tps⟩
  have oexx : OexC K Cx := ⟨⟨nmx, qx, Nx, bsx, bmx, snx, subx, abx, colx, ddx, k0x, k1x, k2x, k3x, k5x, xCx, xbmx⟩, sax, eCx, tCx, kCx⟩
  have S1x : SupC PySem.Challenge.pw_pulsewright_k46_rules_as_texts K mg Cx fIx ccx cdax "part" := ⟨oexx, natx, mCx, vCx, supx, opq, ⟨cclx, cddx, vscx, ccsx, filex, tfx, lcdx, vs2x, filx⟩, ⟨clx, cldx, cslx, lccx⟩, PySem.W.mg_none_of X G z_sup, tps⟩
  have HTc : ClsT K mg C := ⟨PySem.W.mg_of X G aC, ⟨ga, gg, eC, hC⟩, nat, exm_own eC iC tC sC⟩
  have meR : PySem.W.exmOne K (.ref Cx) (.ref Cx) = some true := exm_own eCx iCx tCx sCx
  have hTF : ∀ H, SqT K H TF (ruleK.map Kd.v) := fun H => .inr ⟨_, _, _, lTF, rfl, rfl, by show 4 ≤ sizeLine; decide, .cons ⟨_, rfl⟩ (.cons ⟨_, rfl⟩ (.cons ⟨_, rfl⟩ (.cons ⟨_, rfl⟩ .nil)))⟩
  have IC : IsiC K R := ⟨icl, icn, ict, icm, kit_me R⟩
  have RC : RuleC K R := ⟨⟨pgR, hdR, poR, saR⟩, na1, na2, na3, na4⟩
  have FRI : FunD K "__init__" "Rule.__init__" (defArgs sRI) (defBody sRI) (defScope sRI) dR [] fRI _ := ⟨⟨_, _, _, _, _, _, _, _, _, _, rfl, lRI, cRI, .inr ⟨by simp, Td, _, [.none, .int 0 tk0, .none, .none], nT, rfl, lTd, rfl, .cons rfl (.cons ⟨_, rfl⟩ (.cons rfl (.cons rfl .nil)))⟩, .inl rfl⟩, kRI⟩
  have MKR : Mk K R fRI := ⟨mkR, f_RI, i_RI, kR⟩
  refine ⟨PySem.W.fnOf "law" "law" (defArgs sLW) (defBody sLW) (defScope sLW) .none kVLW dcLW pmLW anLW (.ref c) ctLW, [(c, Pt)], spLW K [(Pt, qL)], ?_, ?_, ?_, fun s u => .of_eq rfl, ?_, fun base kb gb tb => ?_⟩
  · intro p hp
    rw [List.mem_singleton.mp hp]
    exact tab
  · intro p hp
    rw [List.mem_singleton.mp hp]
    exact nPt
  · intro p hp
    rw [List.mem_singleton.mp hp]
    exact PySem.W.codeHd_of_K X chd
  · intro H a ns _ _ hp hS
    refine ⟨a, ns, rfl, hS, fun p hm => ?_, fun _ => rfl⟩
    rw [List.mem_singleton.mp hm]
    exact LamX.TabS.nil (hp (c, Pt) (List.mem_singleton.mpr rfl))
  · have E1 : ErrOk PySem.Challenge.pw_pulsewright_k46_rules_as_texts w K mg base "BadText" "row" C okZero := err_text S1 lI cI (PySem.W.mg_of X G aC) aI tI
    have EH : ErrH PySem.Challenge.pw_pulsewright_k46_rules_as_texts w K mg base "BadText" "row" C okZero := err_textH S1 lI cI (PySem.W.mg_of X G aC) aI tI
    have E2 : ErrOk PySem.Challenge.pw_pulsewright_k46_rules_as_texts w K mg base "BadRule" "part" Cx okStr := err_rule S1x lIx cIx (PySem.W.mg_of X G aCx) aIx tIx
    have oFS : FnOk PySem.Challenge.pw_pulsewright_k46_rules_as_texts w K mg base CX0 1 fFS _ ["text"] spFS := ok_fs FFS B.enu
    have oIW : FnOk PySem.Challenge.pw_pulsewright_k46_rules_as_texts w K mg base CX0 2 fIW _ ["text"] spIW := ok_iw FIW oFS mFS kFS bFS B.len N2
    have oAW : FnOk PySem.Challenge.pw_pulsewright_k46_rules_as_texts w K mg base CX0 3 fAW _ ["texts"] spAW := ok_aw FAW oIW mIW kIW bIW B.len zset B.all N1
    have oCP : FnOk PySem.Challenge.pw_pulsewright_k46_rules_as_texts w K mg base (L2N.CX PySem.Challenge.pw_pulsewright_k46_rules_as_texts w) 4 fCP _ ["words", "low", "high", "span"] (spCP Cx) := ok_cp FCP oAW mAW kAW bAW B.max N3 N4 N5 E2
    have oRI : FnOk PySem.Challenge.pw_pulsewright_k46_rules_as_texts w K mg base (L2N.CX PySem.Challenge.pw_pulsewright_k46_rules_as_texts w) 5 fRI _ psR (spRI R Cx) := ok_ri FRI oCP mCP kCP bCP zsrt RC
    have oRN : FnOk PySem.Challenge.pw_pulsewright_k46_rules_as_texts w K mg base (L2.CX PySem.Challenge.pw_pulsewright_k46_rules_as_texts w) 3 fRN _ ["text"] (spRd rdName C) := ok_rn FRN E1
    have oRW : FnOk PySem.Challenge.pw_pulsewright_k46_rules_as_texts w K mg base (L2.CX PySem.Challenge.pw_pulsewright_k46_rules_as_texts w) 3 fRW _ ["text"] (spRd rdWord C) := ok_rw FRW oFS mFS kFS bFS E1
    have oRR : FnOk PySem.Challenge.pw_pulsewright_k46_rules_as_texts w K mg base (L2.CX PySem.Challenge.pw_pulsewright_k46_rules_as_texts w) 4 fRR _ ["text"] (spRd rdRow C) := ok_rr FRR oRW mRW kRW bRW NN
    have oRM : FnOk PySem.Challenge.pw_pulsewright_k46_rules_as_texts w K mg base (L2.CX PySem.Challenge.pw_pulsewright_k46_rules_as_texts w) 3 fRM _ ["text"] (spRd rdNum C) := ok_rm FRM E1 B.len zany B.int N6 NF
    have oRB : FnOk PySem.Challenge.pw_pulsewright_k46_rules_as_texts w K mg base (L2.CX PySem.Challenge.pw_pulsewright_k46_rules_as_texts w) 4 fRB _ ["text"] (spRd rdBound C) := ok_rb FRB oRM mRM kRM bRM NN
    have oRS : FnOk PySem.Challenge.pw_pulsewright_k46_rules_as_texts w K mg base (L2.CX PySem.Challenge.pw_pulsewright_k46_rules_as_texts w) 4 fRS _ ["text"] (spRd rdWords C) := ok_rsE FRS oRW mRW kRW bRW NN B.tup
    have RDC : ∃ (fR : Kd → Addr) (fdR : Kd → FuncData), RdrE PySem.Challenge.pw_pulsewright_k46_rules_as_texts w K mg base C DR esR nR fR fdR := ⟨fun k => match k with | .name => fRN | .word => fRW | .words => fRS | .row => fRR | .number => fRM | .bound => fRB, fun k => match k with | .name => _ | .word => _ | .words => _ | .row => _ | .number => _ | .bound => _, ⟨PySem.W.mg_of X G aDR, ⟨dDR, litR, lowR⟩, fun k => match k with | .name => r_name | .word => r_word | .words => r_words | .row => r_row | .number => r_number | .bound => r_bound, fun k => match k with | .name => oRN.mono (by decide) | .word => oRW.mono (by decide) | .words => oRS | .row => oRR | .number => oRM.mono (by decide) | .bound => oRB, fun k => match k with | .name => kRN | .word => kRW | .words => kRS | .row => kRR | .number => kRM | .bound => kRB, fun k => match k with | .name => bRN | .word => bRW | .words => bRS | .row => bRR | .number => bRM | .bound => bRB⟩⟩
    obtain ⟨fR, fdR, RDC⟩ := RDC
    have oRT2 : FnOk PySem.Challenge.pw_pulsewright_k46_rules_as_texts w K mg base (L2.CX PySem.Challenge.pw_pulsewright_k46_rules_as_texts w) 5 fRT2 _ ["kinds", "texts"] (spRTE K C) := ok_rte FRT2 RDC E1 B.len zzip
    have KK : RMk PySem.Challenge.pw_pulsewright_k46_rules_as_texts w K mg base R Cx := ⟨⟨fRI, _, oRI, MKR, FRI⟩, PySem.W.mg_of X G aR⟩
    have oRE : FnOk PySem.Challenge.pw_pulsewright_k46_rules_as_texts w K mg base (L2.CX PySem.Challenge.pw_pulsewright_k46_rules_as_texts w) 7 fRE _ ["text"] (spRE R C) := ok_re FRE oRT2 mRT2 kRT2 bRT2 (PySem.W.mg_of X G aTF) hTF KK (PySem.W.mg_of X G aCx) meR E1 EH B.lst zsrt
    have oPU : FnOk PySem.Challenge.pw_pulsewright_k46_rules_as_texts w K mg base CX0 1 fPU _ ["_law_draw", "_law_total_of"] spPU := ok_pu FPU B.len
    have PU : PUOk PySem.Challenge.pw_pulsewright_k46_rules_as_texts w K mg base := ⟨⟨_, _, oPU, mPU, kPU, bPU⟩⟩
    have oRO : FnOk PySem.Challenge.pw_pulsewright_k46_rules_as_texts w K mg base CX0 2 fRO _ ["_law_draw", "_law_many"] spRO := ok_ro FRO PU B.rng
    have oNU : FnOk PySem.Challenge.pw_pulsewright_k46_rules_as_texts w K mg base CX0 1 fNU _ ["_law_found"] spNU := ok_nu FNU B
    have oLK := ok_lk FLK B mLK kLK bLK oNU mNU kNU bNU 3
    have oBA : FnOk PySem.Challenge.pw_pulsewright_k46_rules_as_texts w K mg base CX0 1 fBA _ ["_law_text"] spBA := ok_ba FBA B.rng B.len
    have oWD : FnOk PySem.Challenge.pw_pulsewright_k46_rules_as_texts w K mg base CX0 3 fWD _ ["_law_draw"] spWD := ok_wd FWD PU oRO mRO kRO bRO
    have oWS : FnOk PySem.Challenge.pw_pulsewright_k46_rules_as_texts w K mg base CX0 4 fWS _ ["_law_draw", "_law_most"] spWS := ok_ws FWS B PU oWD mWD kWD bWD
    have oPA : FnOk PySem.Challenge.pw_pulsewright_k46_rules_as_texts w K mg base CX0 5 fPA _ ["_law_draw"] (spPA 6) := ok_pa FPA B zsrt PU oWS mWS kWS bWS
    have oFA : FnOk PySem.Challenge.pw_pulsewright_k46_rules_as_texts w K mg base CX0 2 fFA _ ["_law_draw"] spFA := ok_fa FFA PU
    have oOD : FnOk PySem.Challenge.pw_pulsewright_k46_rules_as_texts w K mg base CX0 6 fOD _ ["_law_draw"] (spPO 30) := ok_od FOD B PU oPA mPA kPA bPA oFA mFA kFA bFA oWD mWD kWD bWD
    have oRL : FnOk PySem.Challenge.pw_pulsewright_k46_rules_as_texts w K mg base CX0 7 fRL _ ["_law_r"] (spRL R) := ok_rl FRL B KK
    have RLM : RuleM PySem.Challenge.pw_pulsewright_k46_rules_as_texts w K mg base R := ⟨RC, ⟨⟨_, _, ok_mw FMW RC B.lst, ⟨f_MW, i_MW, kMW⟩, bMW⟩⟩, ⟨⟨_, _, ok_ml FML RC, ⟨f_ML, i_ML, kML⟩, bML⟩⟩, ⟨⟨_, _, ok_mh FMH RC, ⟨f_MH, i_MH, kMH⟩, bMH⟩⟩, ⟨⟨_, _, ok_ms FMS RC, ⟨f_MS, i_MS, kMS⟩, bMS⟩⟩⟩
    have oSR : FnOk PySem.Challenge.pw_pulsewright_k46_rules_as_texts w K mg base CX0 5 fSR _ ["_law_made", "_law_r"] (spSR R) := ok_sr FSR RLM zsrt oLK mLK kLK bLK
    have oNT : FnOk PySem.Challenge.pw_pulsewright_k46_rules_as_texts w K mg base CX0 1 fNT _ ["number"] spNT := ok_nt FNT B.str
    have oWT : FnOk PySem.Challenge.pw_pulsewright_k46_rules_as_texts w K mg base CX0 1 fWT _ ["words"] spWT := ok_wt FWT
    have oEQ : FnOk PySem.Challenge.pw_pulsewright_k46_rules_as_texts w K mg base CX0 1 fEQ _ ["self", "other"] (spEQ K R) := ok_eq FEQ RC IC B.isi (PySem.W.mg_of X G aR)
    have oST : FnOk PySem.Challenge.pw_pulsewright_k46_rules_as_texts w K mg base CX0 2 fST _ ["self"] (spST R) := ok_st FST RC oWT mWT kWT bWT oNT mNT kNT bNT
    have oUT : FnOk PySem.Challenge.pw_pulsewright_k46_rules_as_texts w K mg base CX0 5 fUT _ ["rule"] (spST R) := ok_ut FUT oST f_ST i_ST bST B.str
    have oRT : FnOk PySem.Challenge.pw_pulsewright_k46_rules_as_texts w K mg base CX0 1 fRT _ ["_law_r"] spRT := ok_rt FRT B zsrt
    have oPT : FnOk PySem.Challenge.pw_pulsewright_k46_rules_as_texts w K mg base CX0 1 fPT _ ["_law_part"] spPT := ok_pt FPT B
    have oTX : FnOk PySem.Challenge.pw_pulsewright_k46_rules_as_texts w K mg base CX0 2 fTX _ ["_law_r"] spTX := ok_tx FTX oPT mPT kPT bPT
    have oNI : FnOk PySem.Challenge.pw_pulsewright_k46_rules_as_texts w K mg base CX0 1 fNI _ ["_law_word_here"] spNI := ok_ni FNI B
    have oPI : FnOk PySem.Challenge.pw_pulsewright_k46_rules_as_texts w K mg base CX0 2 fPI _ ["_law_word_here", "_law_sort"] spPI := ok_pi FPI B oNI mNI kNI bNI oBA mBA kBA bBA
    have oPP : FnOk PySem.Challenge.pw_pulsewright_k46_rules_as_texts w K mg base CX0 3 fPP _ ["_law_some", "_law_form"] spPP := ok_pp FPP B zzip oPI mPI kPI bPI
    have oBN : FnOk PySem.Challenge.pw_pulsewright_k46_rules_as_texts w K mg base CX0 2 fBN _ ["_law_draw", "_law_text"] spBN := ok_bn FBN B PU
    have oRU : FnOk PySem.Challenge.pw_pulsewright_k46_rules_as_texts w K mg base CX0 2 fRU _ ["_law_r"] spRU := ok_ru FRU B zset oBA mBA kBA bBA
    exact ok_lw lLW cLW lTO cTO mTO kTO bTO (tb (c, Pt) (List.mem_singleton.mpr rfl)) HTc ⟨B, zsrt, ⟨⟨_, _, ok_op FOP B.lst, mOP, kOP, bOP⟩⟩, ⟨⟨_, _, oPU, mPU, kPU, bPU⟩⟩, ⟨⟨_, _, oPA, mPA, kPA, bPA⟩⟩, ⟨⟨_, _, oRL, mRL, kRL, bRL⟩⟩, ⟨⟨_, _, oUT, mUT, kUT, bUT⟩⟩, ⟨⟨_, _, oRT, mRT, kRT, bRT⟩⟩, ⟨⟨_, _, oOD, mOD, kOD, bOD⟩⟩, ⟨⟨_, _, oTX, mTX, kTX, bTX⟩⟩, ⟨⟨_, _, oBN, mBN, kBN, bBN⟩⟩, ⟨⟨_, _, oPP, mPP, kPP, bPP⟩⟩, ⟨⟨_, _, oRU, mRU, kRU, bRU⟩⟩, ⟨⟨_, _, oSR, mSR, kSR, bSR⟩⟩, ⟨⟨_, _, oLK, mLK, kLK, bLK⟩⟩, RC, IC, ⟨_, _, oEQ, f_EQ, i_EQ, bEQ⟩, oRE, mRE, kRE, bRE⟩
end K46

set_option Elab.async false
open PySem PySem.W PyProof.Rows
set_option maxRecDepth 100000 in
set_option maxHeartbeats 0 in
theorem PySem.Challenge.cw_pulsewright_k46_rules_as_texts_holds : PySem.Challenge.rw_pulsewright_k46_rules_as_texts.Holds := by
  w_on; o_law; k_head; (case hw => w_witness2)
  k_fill
  refine LamX.walk_ofTs (l := PySem.Challenge.rw_pulsewright_k46_rules_as_texts) (n := 63) (k := 10) (x := "_law_script") (CX := fun _ => L2.CX0) rfl (by decide) rfl ⟨rfl, by decide, by decide⟩ (fun w h Y => PySem.W.km_in_of Y) ?F (fun _ _ _ _ _ z => z)
  case F =>
    intro w mg fa h Y KX G hmg
    have hY := PySem.W.km_tabs_of Y
    refine' K46.all_mk KX G hmg ?aFS ?lFS ?cFS ?kFS ?aIW ?lIW ?cIW ?kIW ?aAW ?lAW ?cAW ?kAW ?aCP ?lCP ?cCP ?kCP ?aNT ?lNT ?cNT ?kNT ?aWT ?lWT ?cWT ?kWT ?aRN ?lRN ?cRN ?kRN ?aRW ?lRW ?cRW ?kRW ?aRS ?lRS ?cRS ?kRS ?aRR ?lRR ?cRR ?kRR ?aRM ?lRM ?cRM ?kRM ?aRB ?lRB ?cRB ?kRB ?aRT2 ?lRT2 ?cRT2 ?kRT2 ?aUT ?lUT ?cUT ?kUT ?aRE ?lRE ?cRE ?kRE ?aOP ?lOP ?cOP ?kOP ?aPU ?lPU ?cPU ?kPU ?aNU ?lNU ?cNU ?kNU ?aLK ?lLK ?cLK ?kLK ?aRO ?lRO ?cRO ?kRO ?aBA ?lBA ?cBA ?kBA ?aWD ?lWD ?cWD ?kWD ?aWS ?lWS ?cWS ?kWS ?aPA ?lPA ?cPA ?kPA ?aRL ?lRL ?cRL ?kRL ?aFA ?lFA ?cFA ?kFA ?aRU ?lRU ?cRU ?kRU ?aOD ?lOD ?cOD ?kOD ?aSR ?lSR ?cSR ?kSR ?aRT ?lRT ?cRT ?kRT ?aPT ?lPT ?cPT ?kPT ?aTX ?lTX ?cTX ?kTX ?aNI ?lNI ?cNI ?kNI ?aPI ?lPI ?cPI ?kPI ?aPP ?lPP ?cPP ?kPP ?aBN ?lBN ?cBN ?kBN ?aTO ?lTO ?cTO ?kTO ?aLW ?lLW ?cLW ?kLW ?z_isi ?z_int ?z_bool ?z_str ?z_tup ?z_lst ?z_len ?z_all ?z_rng ?z_max ?z_min ?z_abs ?z_enu ?z_sup ?z_any ?z_zip ?z_set ?z_srt ?n1 ?n2 ?n3 ?n4 ?n5 ?n6 ?nN ?nF ?aTF ?lTF ?aDR ?dDR ?litR ?lowR ?r_name ?r_word ?r_words ?r_row ?r_number ?r_bound ?aR ?f_MW ?lMW ?cMW ?i_MW ?kMW ?f_ML ?lML ?cML ?i_ML ?kML ?f_MH ?lMH ?cMH ?i_MH ?kMH ?f_MS ?lMS ?cMS ?i_MS ?kMS ?f_EQ ?lEQ ?cEQ ?i_EQ ?kEQ ?f_ST ?lST ?cST ?i_ST ?kST ?f_RI ?lRI ?cRI ?i_RI ?kRI ?lTd ?mkR ?kR ?pgR ?hdR ?poR ?saR ?na1 ?na2 ?na3 ?na4 ?aC ?xC ?xbm ?sa ?ga ?gg ?nat ?eC ?vC ?tC ?hC ?iC ?sC ?mC ?kC ?aI ?tI ?lI ?cI ?lcd ?lcc ?sup ?vs2 ?fil ?aCx ?xCx ?xbmx ?sax ?gax ?ggx ?natx ?eCx ?vCx ?tCx ?hCx ?iCx ?sCx ?mCx ?kCx ?aIx ?tIx ?lIx ?cIx ?lcdx ?lccx ?supx ?vs2x ?filx ?opq ?tps ?icl ?icn ?ict ?icm ?tab ?nPt ?chd
    (case aFS => k_is)
    (case lFS => k_is)
    (case cFS => k_is)
    (case kFS => k_is)
    (case aIW => k_is)
    (case lIW => k_is)
    (case cIW => k_is)
    (case kIW => k_is)
    (case aAW => k_is)
    (case lAW => k_is)
    (case cAW => k_is)
    (case kAW => k_is)
    (case aCP => k_is)
    (case lCP => k_is)
    (case cCP => k_is)
    (case kCP => k_is)
    (case aNT => k_is)
    (case lNT => k_is)
    (case cNT => k_is)
    (case kNT => k_is)
    (case aWT => k_is)
    (case lWT => k_is)
    (case cWT => k_is)
    (case kWT => k_is)
    (case aRN => k_is)
    (case lRN => k_is)
    (case cRN => k_is)
    (case kRN => k_is)
    (case aRW => k_is)
    (case lRW => k_is)
    (case cRW => k_is)
    (case kRW => k_is)
    (case aRS => k_is)
    (case lRS => k_is)
    (case cRS => k_is)
    (case kRS => k_is)
    (case aRR => k_is)
    (case lRR => k_is)
    (case cRR => k_is)
    (case kRR => k_is)
    (case aRM => k_is)
    (case lRM => k_is)
    (case cRM => k_is)
    (case kRM => k_is)
    (case aRB => k_is)
    (case lRB => k_is)
    (case cRB => k_is)
    (case kRB => k_is)
    (case aRT2 => k_is)
    (case lRT2 => k_is)
    (case cRT2 => k_is)
    (case kRT2 => k_is)
    (case aUT => k_is)
    (case lUT => k_is)
    (case cUT => k_is)
    (case kUT => k_is)
    (case aRE => k_is)
    (case lRE => k_is)
    (case cRE => k_is)
    (case kRE => k_is)
    (case aOP => k_is)
    (case lOP => k_is)
    (case cOP => k_is)
    (case kOP => k_is)
    (case aPU => k_is)
    (case lPU => k_is)
    (case cPU => k_is)
    (case kPU => k_is)
    (case aNU => k_is)
    (case lNU => k_is)
    (case cNU => k_is)
    (case kNU => k_is)
    (case aLK => k_is)
    (case lLK => k_is)
    (case cLK => k_is)
    (case kLK => k_is)
    (case aRO => k_is)
    (case lRO => k_is)
    (case cRO => k_is)
    (case kRO => k_is)
    (case aBA => k_is)
    (case lBA => k_is)
    (case cBA => k_is)
    (case kBA => k_is)
    (case aWD => k_is)
    (case lWD => k_is)
    (case cWD => k_is)
    (case kWD => k_is)
    (case aWS => k_is)
    (case lWS => k_is)
    (case cWS => k_is)
    (case kWS => k_is)
    (case aPA => k_is)
    (case lPA => k_is)
    (case cPA => k_is)
    (case kPA => k_is)
    (case aRL => k_is)
    (case lRL => k_is)
    (case cRL => k_is)
    (case kRL => k_is)
    (case aFA => k_is)
    (case lFA => k_is)
    (case cFA => k_is)
    (case kFA => k_is)
    (case aRU => k_is)
    (case lRU => k_is)
    (case cRU => k_is)
    (case kRU => k_is)
    (case aOD => k_is)
    (case lOD => k_is)
    (case cOD => k_is)
    (case kOD => k_is)
    (case aSR => k_is)
    (case lSR => k_is)
    (case cSR => k_is)
    (case kSR => k_is)
    (case aRT => k_is)
    (case lRT => k_is)
    (case cRT => k_is)
    (case kRT => k_is)
    (case aPT => k_is)
    (case lPT => k_is)
    (case cPT => k_is)
    (case kPT => k_is)
    (case aTX => k_is)
    (case lTX => k_is)
    (case cTX => k_is)
    (case kTX => k_is)
    (case aNI => k_is)
    (case lNI => k_is)
    (case cNI => k_is)
    (case kNI => k_is)
    (case aPI => k_is)
    (case lPI => k_is)
    (case cPI => k_is)
    (case kPI => k_is)
    (case aPP => k_is)
    (case lPP => k_is)
    (case cPP => k_is)
    (case kPP => k_is)
    (case aBN => k_is)
    (case lBN => k_is)
    (case cBN => k_is)
    (case kBN => k_is)
    (case aTO => k_is)
    (case lTO => k_is)
    (case cTO => k_is)
    (case kTO => k_is)
    (case aLW => k_is)
    (case lLW => k_is)
    (case cLW => k_is)
    (case kLW => k_is)
    (case z_isi => k_is)
    (case z_int => k_is)
    (case z_bool => k_is)
    (case z_str => k_is)
    (case z_tup => k_is)
    (case z_lst => k_is)
    (case z_len => k_is)
    (case z_all => k_is)
    (case z_rng => k_is)
    (case z_max => k_is)
    (case z_min => k_is)
    (case z_abs => k_is)
    (case z_enu => k_is)
    (case z_sup => k_is)
    (case z_any => k_is)
    (case z_zip => k_is)
    (case z_set => k_is)
    (case z_srt => k_is)
    (case n1 => k_is)
    (case n2 => k_is)
    (case n3 => k_is)
    (case n4 => k_is)
    (case n5 => k_is)
    (case n6 => k_is)
    (case nN => k_is)
    (case nF => k_is)
    (case aTF => k_is)
    (case lTF => k_is)
    (case aDR => k_is)
    (case dDR => k_is)
    (case litR => (repeat' (first | exact trivial | refine ⟨⟨_, _, rfl, rfl⟩, ?_⟩)))
    (case lowR => rfl)
    (case r_name => k_is)
    (case r_word => k_is)
    (case r_words => k_is)
    (case r_row => k_is)
    (case r_number => k_is)
    (case r_bound => k_is)
    (case aR => k_is)
    (case f_MW => k_is)
    (case lMW => k_is)
    (case cMW => k_is)
    (case i_MW => k_is)
    (case kMW => k_is)
    (case f_ML => k_is)
    (case lML => k_is)
    (case cML => k_is)
    (case i_ML => k_is)
    (case kML => k_is)
    (case f_MH => k_is)
    (case lMH => k_is)
    (case cMH => k_is)
    (case i_MH => k_is)
    (case kMH => k_is)
    (case f_MS => k_is)
    (case lMS => k_is)
    (case cMS => k_is)
    (case i_MS => k_is)
    (case kMS => k_is)
    (case f_EQ => k_is)
    (case lEQ => k_is)
    (case cEQ => k_is)
    (case i_EQ => k_is)
    (case kEQ => k_is)
    (case f_ST => k_is)
    (case lST => k_is)
    (case cST => k_is)
    (case i_ST => k_is)
    (case kST => k_is)
    (case f_RI => k_is)
    (case lRI => k_is)
    (case cRI => k_is)
    (case i_RI => k_is)
    (case kRI => k_is)
    (case lTd => k_is)
    (case mkR => k_is)
    (case kR => k_is)
    (case pgR => k_is)
    (case hdR => k_is)
    (case poR => k_is)
    (case saR => k_is)
    (case na1 => k_is)
    (case na2 => k_is)
    (case na3 => k_is)
    (case na4 => k_is)
    (case aC => k_is)
    (case xC => k_is)
    (case xbm => first | rfl | decide +kernel)
    (case sa => k_is)
    (case ga => k_is)
    (case gg => k_is)
    (case nat => k_is)
    (case eC => k_is)
    (case vC => k_is)
    (case tC => k_is)
    (case hC => k_is)
    (case iC => k_is)
    (case sC => k_is)
    (case mC => k_is)
    (case kC => k_is)
    (case aI => k_is)
    (case tI => k_is)
    (case lI => k_is)
    (case cI => k_is)
    (case lcd => k_is)
    (case lcc => k_is)
    (case sup => ks_is)
    (case vs2 => rfl)
    (case fil => first | rfl | decide +kernel)
    (case aCx => k_is)
    (case xCx => k_is)
    (case xbmx => first | rfl | decide +kernel)
    (case sax => k_is)
    (case gax => k_is)
    (case ggx => k_is)
    (case natx => k_is)
    (case eCx => k_is)
    (case vCx => k_is)
    (case tCx => k_is)
    (case hCx => k_is)
    (case iCx => k_is)
    (case sCx => k_is)
    (case mCx => k_is)
    (case kCx => k_is)
    (case aIx => k_is)
    (case tIx => k_is)
    (case lIx => k_is)
    (case cIx => k_is)
    (case lcdx => k_is)
    (case lccx => k_is)
    (case supx => ks_is)
    (case vs2x => rfl)
    (case filx => first | rfl | decide +kernel)
    (case opq => k_is)
    (case tps => first | rfl | decide +kernel)
    (case icl => k_is)
    (case icn => k_is)
    (case ict => k_is)
    (case icm => k_is)
    (case tab => exact hY _ (List.mem_singleton.mpr rfl))
    (case nPt => first | rfl | kernel_rfl)
    (case chd => first | rfl | kernel_rfl)

